import PyProof.Rows.All
import Wide.All
import OpenK.AllK
import Wide.FinOn
import HandS.ForMost
import HandS.SlotsOwn
import HandS.Wide
import HandS.IsInst
import HandS.Style
import HandS.Zip
import HandS.Walk
import HandS.Exc
import HandS.TryOnly
import HandS.ExcOwn
import HandS.WordsExc
import HandS.ExcIs
import KE.OsGo
import HandS.Codes
import HandS.Text
import KE.IntTextLaws
import KE.KExcIs
import KE.DataEq
import KE.KTupSum
import HandS.Defaults
import HandS.MakeKw
import HandS.MakeKwOnly
import HandS.ClsMeth
import HandS.Strs
import KE.GoesMore
import HandS.TupAny
import HandS.TupMul
import HandS.TryMany
import HandS.ExcCtx
import HandS.ExcInit
import HandS.RaiseFrom
import HandS.HotCalls
import HandS.SuiteRaise
import KE.KOpsOwn
import PyProof.P3In
import HandS.Dict
import HandS.More
import PyProof.ReprRoads
import HandS.Conv
import PyProof.EqKinds
import PyProof.NeKinds
import PyProof.EqAt
import KE.GoesEnumKw
import PyProof.SumWalkG
import PyProof.ConsumeWalk
import PyProof.EnumIter
import PyProof.WalkInts
import PyProof.Rows.SumAny
import PyProof.StrCalls6
import HandS.Replace
import HandS.DictComp
import PySem.Challenge.RW_wheelchorus_k10_town_texts_refused
import HandS.FStr
set_option Elab.async false
set_option linter.all false
set_option maxRecDepth 100000
set_option maxHeartbeats 4000000
/-! Numbers as lists of digits, their rows, and where two rows part. -/
namespace Wm
open PySem L2
def codes (ds : List Nat) : List Nat := ds.map (· + 48)
def numS (ds : List Nat) : Str := ⟨(codes ds).toArray⟩
structure Dig (ds : List Nat) : Prop where
  dig : ∀ d ∈ ds, 1 ≤ d ∧ d ≤ 9
structure Num (ds : List Nat) : Prop where
  pos : 1 ≤ ds.length
  len : ds.length ≤ 4
  dig : ∀ d ∈ ds, 1 ≤ d ∧ d ≤ 9
  sum : ds.sum ≤ 24
def blk (d : Nat) : List Int := (List.replicate d [1, 0]).flatten
def rowL : List Nat → List Int
  | [] => [0, 0]
  | d :: ds => blk d ++ ([0, 0] ++ rowL ds)
structure Diff (xs ys : List Int) (k : Nat) (a b : Int) : Prop where
  one : xs[k]? = some a
  two : ys[k]? = some b
  ne : a ≠ b
  eq : ∀ j, j < k → xs[j]? = ys[j]?
theorem Diff.symm {xs ys : List Int} {k : Nat} {a b : Int} (h : Diff xs ys k a b) : Diff ys xs k b a :=
  ⟨h.two, h.one, h.ne.symm, fun j l => (h.eq j l).symm⟩
theorem Diff.cons {xs ys : List Int} {k : Nat} {a b : Int} (z : Int) (h : Diff xs ys k a b) : Diff (z :: xs) (z :: ys) (k + 1) a b := by
  refine ⟨by simpa using h.one, by simpa using h.two, h.ne, fun j l => ?_⟩
  cases j with
  | zero => rfl
  | succ j => simpa using h.eq j (by omega)
theorem Diff.app {xs ys : List Int} {k : Nat} {a b : Int} : ∀ (p : List Int), Diff xs ys k a b → Diff (p ++ xs) (p ++ ys) (p.length + k) a b
  | [], h => by simpa using h
  | z :: p, h => by
    have ih := (Diff.app p h).cons z
    have e : (z :: p).length + k = p.length + k + 1 := by simp only [List.length_cons]; omega
    rw [e]
    exact ih
theorem Diff.uniq {xs ys : List Int} {k l : Nat} {a b c d : Int} (h : Diff xs ys k a b) (g : Diff xs ys l c d) : k = l ∧ a = c ∧ b = d := by
  have e : k = l := by
    rcases Nat.lt_trichotomy k l with x | x | x
    · exact absurd (by have q := g.eq k x; rw [h.one, h.two] at q; exact Option.some.inj q) h.ne
    · exact x
    · exact absurd (by have q := h.eq l x; rw [g.one, g.two] at q; exact Option.some.inj q) g.ne
  subst e
  exact ⟨rfl, Option.some.inj (h.one.symm.trans g.one), Option.some.inj (h.two.symm.trans g.two)⟩
theorem Diff.lt1 {xs ys : List Int} {k : Nat} {a b : Int} (h : Diff xs ys k a b) : k < xs.length := (List.getElem?_eq_some_iff.mp h.one).1
theorem Diff.lt2 {xs ys : List Int} {k : Nat} {a b : Int} (h : Diff xs ys k a b) : k < ys.length := (List.getElem?_eq_some_iff.mp h.two).1
theorem blk_add (d e : Nat) : blk (d + e) = blk d ++ blk e := by
  unfold blk
  rw [← List.replicate_append_replicate, List.flatten_append]
theorem blk_succ (e : Nat) : blk (e + 1) = [1, 0] ++ blk e := by
  rw [Nat.add_comm, blk_add]
  rfl
theorem blk_len (d : Nat) : (blk d).length = 2 * d := by
  induction d with
  | zero => rfl
  | succ d ih => rw [blk_succ, List.length_append, ih]; simp only [List.length_cons, List.length_nil]; omega
theorem row_less (d e : Nat) (ds es : List Nat) (h : d < e) : Diff (rowL (d :: ds)) (rowL (e :: es)) (2 * d) 0 1 := by
  obtain ⟨f, rfl⟩ : ∃ f, e = d + (f + 1) := ⟨e - d - 1, by omega⟩
  have h0 : Diff ([0, 0] ++ rowL ds) ([1, 0] ++ (blk f ++ ([0, 0] ++ rowL es))) 0 0 1 := ⟨rfl, rfl, by decide, fun j l => absurd l (Nat.not_lt_zero _)⟩
  have h1 := h0.app (blk d)
  rw [blk_len, Nat.add_zero] at h1
  have e1 : rowL ((d + (f + 1)) :: es) = blk d ++ ([1, 0] ++ (blk f ++ ([0, 0] ++ rowL es))) := by
    show blk (d + (f + 1)) ++ _ = _
    rw [blk_add, blk_succ, List.append_assoc, List.append_assoc]
  rw [e1]
  exact h1
theorem rows_part : ∀ (ds es : List Nat), (∀ d ∈ ds, 1 ≤ d) → (∀ e ∈ es, 1 ≤ e) →
    ds = es ∨ (∃ k, Diff (rowL ds) (rowL es) k 1 0 ∧ es < ds) ∨ (∃ k, Diff (rowL ds) (rowL es) k 0 1 ∧ ds < es)
  | [], [], _, _ => .inl rfl
  | [], e :: es, _, h => by
    obtain ⟨f, rfl⟩ : ∃ f, e = f + 1 := ⟨e - 1, by have := h e (by simp); omega⟩
    refine .inr (.inr ⟨0, ⟨rfl, ?_, by decide, fun j l => absurd l (Nat.not_lt_zero _)⟩, List.nil_lt_cons _ _⟩)
    show (blk (f + 1) ++ _)[0]? = _
    rw [blk_succ]
    rfl
  | d :: ds, [], h, _ => by
    obtain ⟨f, rfl⟩ : ∃ f, d = f + 1 := ⟨d - 1, by have := h d (by simp); omega⟩
    refine .inr (.inl ⟨0, ⟨?_, rfl, by decide, fun j l => absurd l (Nat.not_lt_zero _)⟩, List.nil_lt_cons _ _⟩)
    show (blk (f + 1) ++ _)[0]? = _
    rw [blk_succ]
    rfl
  | d :: ds, e :: es, h, g => by
    rcases Nat.lt_trichotomy d e with x | x | x
    · exact .inr (.inr ⟨_, row_less d e ds es x, List.cons_lt_cons_iff.mpr (.inl x)⟩)
    · subst x
      rcases rows_part ds es (fun y m => h y (List.mem_cons_of_mem _ m)) (fun y m => g y (List.mem_cons_of_mem _ m)) with q | ⟨k, q, l⟩ | ⟨k, q, l⟩
      · exact .inl (by rw [q])
      · exact .inr (.inl ⟨_, (q.app [0, 0]).app (blk d), List.cons_lt_cons_iff.mpr (.inr ⟨rfl, l⟩)⟩)
      · exact .inr (.inr ⟨_, (q.app [0, 0]).app (blk d), List.cons_lt_cons_iff.mpr (.inr ⟨rfl, l⟩)⟩)
    · exact .inr (.inl ⟨_, (row_less e d es ds x).symm, List.cons_lt_cons_iff.mpr (.inl x)⟩)
theorem codes_lt : ∀ (ds es : List Nat), ds < es → codes ds < codes es
  | [], [], h => absurd h (List.lt_irrefl _)
  | [], _ :: _, _ => List.nil_lt_cons _ _
  | _ :: _, [], h => absurd h (List.not_lt_nil _)
  | d :: ds, e :: es, h => by
    rcases List.cons_lt_cons_iff.mp h with x | ⟨x, y⟩
    · exact List.cons_lt_cons_iff.mpr (.inl (Nat.add_lt_add_right x 48))
    · exact List.cons_lt_cons_iff.mpr (.inr ⟨by rw [x], codes_lt ds es y⟩)
theorem codes_inj : ∀ (ds es : List Nat), codes ds = codes es → ds = es
  | [], [], _ => rfl
  | [], _ :: _, h => by simp [codes] at h
  | _ :: _, [], h => by simp [codes] at h
  | d :: ds, e :: es, h => by
    have h1 : d + 48 = e + 48 := (List.cons.inj h).1
    have h2 : codes ds = codes es := (List.cons.inj h).2
    rw [codes_inj ds es h2, show d = e by omega]
theorem numS_cps (ds : List Nat) : (numS ds).cps.toList = codes ds := rfl
theorem numS_inj {ds es : List Nat} (h : numS ds = numS es) : ds = es := codes_inj _ _ (by rw [← numS_cps, h, numS_cps])
theorem numS_len (ds : List Nat) : (numS ds).length = ds.length := by
  show (codes ds).toArray.size = _
  simp [codes]
theorem lt_asymm' {a b : List Nat} (h : a < b) : ¬ b < a := fun g => List.lt_irrefl _ (List.lt_trans h g)
theorem rowL_le : ∀ ds : List Nat, (∀ d ∈ ds, d ≤ 9) → (rowL ds).length ≤ 20 * ds.length + 2
  | [], _ => by decide
  | d :: ds, h => by
    have ih := rowL_le ds fun y m => h y (List.mem_cons_of_mem _ m)
    have hd := h d (by simp)
    show (blk d ++ ([0, 0] ++ rowL ds)).length ≤ _
    rw [List.length_append, List.length_append, blk_len]
    simp only [List.length_cons, List.length_nil]
    omega
end Wm

/-! Digits as signs, texts of digits cut and joined; what a heap keeps. -/
namespace Wm
open PySem L2
theorem dig_cases {d : Nat} (h : 1 ≤ d ∧ d ≤ 9) : d = 1 ∨ d = 2 ∨ d = 3 ∨ d = 4 ∨ d = 5 ∨ d = 6 ∨ d = 7 ∨ d = 8 ∨ d = 9 := by omega
theorem dig_int {d : Nat} (h : 1 ≤ d ∧ d ≤ 9) : PySem.intText? ⟨#[d + 48]⟩ = some (d : Int) := by
  rcases dig_cases h with e | e | e | e | e | e | e | e | e <;> subst e <;> decide +kernel
theorem dig_in {d : Nat} (h : 1 ≤ d ∧ d ≤ 9) : (d + 48) ∈ ("123456789" : Str).cps.toList := by
  rcases dig_cases h with e | e | e | e | e | e | e | e | e <;> subst e <;> decide +kernel
theorem dig_str {d : Nat} (h : 1 ≤ d ∧ d ≤ 9) : ((toString (d : Int) : String) : Str) = numS [d] := by
  rcases dig_cases h with e | e | e | e | e | e | e | e | e <;> subst e <;> decide +kernel
theorem numS_app (ds es : List Nat) : numS ds ++ numS es = numS (ds ++ es) := by
  refine PyProof.Rows.ext_toList ?_
  show ((numS ds).cps ++ (numS es).cps).toList = _
  rw [Array.toList_append, numS_cps, numS_cps, numS_cps]
  simp [codes]
theorem numS_nil : numS [] = ("" : Str) := by decide +kernel
theorem numS_take (ds : List Nat) (k : Nat) : cutS (numS ds) none (some (k : Int)) = numS (ds.take k) := by
  refine PyProof.Rows.ext_toList ?_
  show ((codes ds).drop 0).take (HT.sIx (numS ds).length (numS ds).length (some (k : Int)) - 0) = codes (ds.take k)
  rw [numS_len, HT.sIx_nat, List.drop_zero, Nat.sub_zero]
  simp only [codes, ← List.map_take]
  congr 1
  rw [List.take_eq_take_iff]
  omega
theorem numS_last (ds : List Nat) : cutS (numS ds) none (some (-1)) = numS ds.dropLast := by
  refine PyProof.Rows.ext_toList ?_
  show ((codes ds).drop 0).take (HT.sIx (numS ds).length (numS ds).length (some (-1)) - 0) = codes ds.dropLast
  rw [numS_len, List.drop_zero, Nat.sub_zero, List.dropLast_eq_take]
  simp only [codes, ← List.map_take]
  have e : HT.sIx ds.length ds.length (some (-1)) = ds.length - 1 := by
    unfold HT.sIx
    simp only [show (-1 : Int) < 0 by decide, if_true]
    omega
  rw [e]
theorem numS_at (ds : List Nat) (i : Nat) (hi : i < ds.length) : (numS ds).cps[i]? = some (ds[i] + 48) := by
  show ((codes ds).toArray)[i]? = _
  simp [codes, hi]
theorem numS_size (ds : List Nat) : (numS ds).cps.size = ds.length := numS_len ds

/-! heaps -/
theorem same_new {H : Hp} {p : Addr} {o : HO} (n : H p = none) : Same H (upd H p o) := fun b u e => by
  rw [upd_ne (ne_of_none e n)]
  exact e
theorem at_old {H : Hp} {p q : Addr} {o u : HO} (h : H p = some o) (n : H q = none) : upd H q u p = some o := by
  rw [upd_ne (ne_of_none h n)]
  exact h
theorem sameT {K : PySem.W.Frag} {H H' : Hp} {a : Addr} {xs : List V} (e : Same H H') (h : SqT K H a xs) : SqT K H' a xs := by
  rcases h with (h | ⟨o, h⟩) | h
  · exact .inl (.inl (e _ _ h))
  · exact .inl (.inr ⟨o, e _ _ h⟩)
  · exact .inr h
/-- what stood stands, but for what H did not know and the object at p, which is new since -/
theorem same_mut {H H' : Hp} {p : Addr} {o : HO} (s : Same H H') (n : H p = none) : Same H (upd H' p o) := fun b u e => by
  rw [upd_ne (ne_of_none e n)]
  exact s b u e
/-- the bag's list at b, its cells at c -/
def Cel (H : Hp) (b c : Addr) : Prop := ∃ x k m z : Int, H b = some (.lst [.int x, .ref c, .int k, .int m, .int z])
structure But (b : Addr) (H H' : Hp) : Prop where
  keep : ∀ p o, p ≠ b → H p = some o → H' p = some o
  cel : ∀ c, Cel H b c → Cel H' b c
instance {b : Addr} {H H' : Hp} : CoeFun (But b H H') (fun _ => ∀ p o, p ≠ b → H p = some o → H' p = some o) := ⟨But.keep⟩
theorem But.refl (b : Addr) (H : Hp) : But b H H := ⟨fun _ _ _ h => h, fun _ h => h⟩
theorem But.trans {b : Addr} {H H1 H2 : Hp} (x : But b H H1) (y : But b H1 H2) : But b H H2 := ⟨fun p o n h => y.keep p o n (x.keep p o n h), fun c h => y.cel c (x.cel c h)⟩
theorem But.of {b : Addr} {H H' : Hp} (s : Same H H') : But b H H' := ⟨fun p o _ h => s p o h, fun _ ⟨x, k, m, z, h⟩ => ⟨x, k, m, z, s _ _ h⟩⟩
theorem But.set {b c : Addr} {H : Hp} {x k m z x' k' m' z' : Int} (hb : H b = some (.lst [.int x, .ref c, .int k, .int m, .int z])) : But b H (upd H b (.lst [.int x', .ref c, .int k', .int m', .int z'])) :=
  ⟨fun p u n h => by
    rw [upd_ne n]
    exact h, fun c2 ⟨a1, a2, a3, a4, h⟩ => by
    rw [hb] at h
    have h := Option.some.inj h
    injection h with h
    injection h with h1 h
    injection h with h2 h
    injection h2 with h2
    subst h2
    exact ⟨x', k', m', z', upd_same⟩⟩
/-- the bag of draws: its cells' list and its four numbers -/
def Bag (H : Hp) (b : Addr) (n : Nat) : Prop :=
  ∃ (c : Addr) (x k m z : Int) (ns : List Int), H b = some (.lst [.int x, .ref c, .int k, .int m, .int z]) ∧ H c = some (.lst (ns.map V.int)) ∧ 0 ≤ k ∧ 0 ≤ m ∧ m ≤ (n : Int)
theorem bag_ne {H : Hp} {b c : Addr} {x k m z : Int} {ns : List Int} (hb : H b = some (.lst [.int x, .ref c, .int k, .int m, .int z])) (hc : H c = some (.lst (ns.map V.int))) : c ≠ b := by
  intro e
  subst e
  rw [hb] at hc
  have q := Option.some.inj hc
  have q2 : ([.int x, .ref c, .int k, .int m, .int z] : List V) = ns.map V.int := by injection q
  cases ns with
  | nil => simp at q2
  | cons u r => cases r with
    | nil => simp at q2
    | cons v r => simp at q2
theorem Bag.mono {H : Hp} {b : Addr} {n m : Nat} (h : Bag H b n) (l : n ≤ m) : Bag H b m := by
  obtain ⟨c, x, k, q, z, ns, h1, h2, h3, h4, h5⟩ := h
  exact ⟨c, x, k, q, z, ns, h1, h2, h3, h4, by omega⟩
theorem Bag.keep {H H' : Hp} {b : Addr} {n : Nat} (h : Bag H b n) (s : Same H H') : Bag H' b n := by
  obtain ⟨c, x, k, q, z, ns, h1, h2, h3, h4, h5⟩ := h
  exact ⟨c, x, k, q, z, ns, s _ _ h1, s _ _ h2, h3, h4, h5⟩
theorem Cel.uniq {H : Hp} {b c d : Addr} (h : Cel H b c) (g : Cel H b d) : c = d := by
  obtain ⟨x, k, m, z, h⟩ := h
  obtain ⟨x', k', m', z', g⟩ := g
  rw [h] at g
  have g := Option.some.inj g
  injection g with g
  injection g with g1 g
  injection g with g2 g
  injection g2
theorem But.put {b D : Addr} {H H' : Hp} {o : HO} (e : But b H H') (n : H D = none) : But b H (upd H' D o) := by
  refine ⟨fun p u pb h => ?_, fun c h => ?_⟩
  · rw [upd_ne (ne_of_none h n)]
    exact e.keep p u pb h
  · have h0 := h
    obtain ⟨x, k, m, z, h⟩ := h
    obtain ⟨x', k', m', z', g⟩ := e.cel c h0
    exact ⟨x', k', m', z', by rw [upd_ne (ne_of_none h n)]; exact g⟩
theorem Bag.put {b D : Addr} {H H' : Hp} {o : HO} {n m : Nat} (bag : Bag H b n) (f : H D = none) (e : But b H H') (bag2 : Bag H' b m) : Bag (upd H' D o) b m := by
  obtain ⟨c, x, k, q, z, ns, h1, h2, h3, h4, h5⟩ := bag
  obtain ⟨c', x', k', q', z', ns', g1, g2, g3, g4, g5⟩ := bag2
  have ec : c = c' := Cel.uniq (e.cel c ⟨x, k, q, z, h1⟩) ⟨x', k', q', z', g1⟩
  subst ec
  exact ⟨c, x', k', q', z', ns', by rw [upd_ne (ne_of_none h1 f)]; exact g1, by rw [upd_ne (ne_of_none h2 f)]; exact g2, g3, g4, g5⟩
end Wm
namespace Wm
open PySem L2
theorem yesT {σ : L2.St} {H : Hp} {A B : Hp → Prop} (h : A H) : tYes σ H (fun b H3 => if b = true then A H3 else B H3) := by
  show (if true = true then A H else B H)
  rw [if_pos rfl]
  exact h
end Wm

/-! row[::2] of a list or a tuple; a loop over a list or a tuple. -/
namespace Hf
open PySem PySem.Spec PyProof.Rows L2
def ev2 {α : Type} : List α → List α
  | [] => []
  | [x] => [x]
  | x :: _ :: r => x :: ev2 r
theorem ev2_le {α : Type} : ∀ xs : List α, (ev2 xs).length ≤ xs.length
  | [] => Nat.le_refl _
  | [_] => Nat.le_refl _
  | x :: y :: r => by
    have ih := ev2_le r
    show (ev2 r).length + 1 ≤ r.length + 2
    omega
theorem ev2_mem {α : Type} {z : α} : ∀ {xs : List α}, z ∈ ev2 xs → z ∈ xs
  | [], h => h
  | [_], h => h
  | x :: y :: r, h => by
    rcases List.mem_cons.mp h with e | e
    · rw [e]; simp
    · exact List.mem_cons_of_mem _ (List.mem_cons_of_mem _ (ev2_mem e))
theorem ev2_map {α β : Type} (f : α → β) : ∀ xs : List α, ev2 (xs.map f) = (ev2 xs).map f
  | [] => rfl
  | [_] => rfl
  | x :: y :: r => by
    show f x :: ev2 (r.map f) = f x :: (ev2 r).map f
    rw [ev2_map f r]
theorem ev2_pick {α : Type} : ∀ xs : List α, (List.range ((xs.length + 1) / 2)).filterMap (fun k => xs[2 * k]?) = ev2 xs
  | [] => by simp [ev2]
  | [x] => by
    rw [show ([x].length + 1) / 2 = 1 by simp, show List.range 1 = [0] by decide]
    simp [ev2]
  | x :: y :: r => by
    have ih := ev2_pick r
    have e : ((x :: y :: r).length + 1) / 2 = (r.length + 1) / 2 + 1 := by
      show (r.length + 1 + 1 + 1) / 2 = _
      omega
    rw [e, List.range_succ_eq_map, List.filterMap_cons]
    show x :: _ = x :: ev2 r
    rw [List.filterMap_map, ← ih]
    rfl
theorem ev2_vals : ∀ {xs : List V} {us : List Value}, Vals xs us → Vals (ev2 xs) (ev2 us)
  | [], _, h => by cases h; exact .nil
  | [x], _, h => by
    cases h with
    | cons a b =>
      cases b
      exact .cons a .nil
  | x :: y :: r, _, h => by
    cases h with
    | cons a b =>
      cases b with
      | cons c d => exact .cons a (ev2_vals d)
theorem pick2 (items : Array Value) : slicePick items none none (some 2) = (ev2 items.toList).toArray := by
  have e := ev2_pick items.toList
  unfold slicePick
  have b : sliceBounds none none (some 2) items.size = (0, (items.size : Int), 2) := by
    first
    | rfl
    | simp [sliceBounds]
  rw [b]
  show ((sliceRange 0 (items.size : Int) 2).filterMap (items[·]?)).toArray = _
  have r : sliceRange 0 (items.size : Int) 2 = (List.range ((items.size + 1) / 2)).map fun k => 2 * k := by
    unfold sliceRange
    have h1 : (2 : Int) > 0 := by decide
    by_cases h : (0 : Int) < (items.size : Int)
    · have e : ((items.size : Int) - 0 + 2 - 1) / 2 = (((items.size + 1) / 2 : Nat) : Int) := by omega
      simp only [h1, if_true, h, e, Int.toNat_natCast]
      apply List.map_congr_left
      intro k _
      omega
    · have e : items.size = 0 := by omega
      simp [e]
  rw [r, List.filterMap_map]
  rw [Array.length_toList] at e
  rw [← e]
  refine congrArg List.toArray (congrArg (fun f => List.filterMap f _) (funext fun k => ?_))
  show items[2 * k]? = _
  rw [Array.getElem?_toList]
section
variable {prog : Program} {w : World} {A : Around} {E : Value → Shared → Prop} {s : Shared}
theorem places2 (n : Nat) : Builtin.Slice.slicePlaces 0 (n : Int) 2 = (n + 1) / 2 := by
  unfold Builtin.Slice.slicePlaces
  have h1 : (2 : Int) > 0 := by omega
  simp only [h1, if_true]
  split <;> omega
theorem adjust2 (n : Nat) : Builtin.Slice.sliceAdjust none none 2 (n : Int) = (0, (n : Int)) := by
  have h1 : ¬ ((2 : Int) < 0) := by omega
  unfold Builtin.Slice.sliceAdjust
  simp only [h1, if_false]
theorem sliceApplied2 {sl : Addr} {t : Tok} {n : Nat} {Q : Int × Int × Nat → Shared → Prop} (hs : s.heap.IsSliceOf sl .none .none (.int 2 t))
    (h : Q (0, 2, (n + 1) / 2) s) : wpAny (model prog w) A (Builtin.Slice.sliceApplied (.ref sl) (pure (n : Int))) Q E s := by
  obtain ⟨os, hos, hcs, hds⟩ := id hs
  unfold Builtin.Slice.sliceApplied Builtin.Slice.sliceFields
  refine wpAny_bind (wpAny_bind (wpAny_field hos hds (x := .none) rfl (wpAny_bind (wpAny_field hos hds (x := .none) rfl (wpAny_bind (wpAny_field hos hds (x := .int 2 t) rfl (wpAny_pure ?_)))))))
  refine wpAny_bind (slicePart_int ?_)
  show wpAny _ _ (if ((2 : Int) == 0) = true then _ else _) _ _ s
  rw [if_neg (by decide)]
  refine wpAny_bind (HT.slicePart_ .none (wpAny_bind (HT.slicePart_ .none (wpAny_bind (wpAny_pure ?_)))))
  show wpAny _ _ (match Builtin.Slice.sliceAdjust none none 2 (n : Int) with | (lo, hi) => pure (lo, (2 : Int), Builtin.Slice.slicePlaces lo hi 2)) _ _ s
  rw [adjust2 n]
  show wpAny _ _ (pure ((0 : Int), (2 : Int), Builtin.Slice.slicePlaces (0 : Int) (n : Int) 2)) _ _ s
  rw [places2]
  exact wpAny_pure h
theorem pick2t (xs : Array Value) : ((List.range ((xs.size + 1) / 2)).filterMap fun (m : Nat) => xs[((0 : Int) + (m : Int) * 2).toNat]?).toArray = (ev2 xs.toList).toArray := by
  have e : (fun (m : Nat) => xs[((0 : Int) + (m : Int) * 2).toNat]?) = fun m => xs.toList[2 * m]? := by
    funext m
    have : ((0 : Int) + (m : Int) * 2).toNat = 2 * m := by omega
    rw [this, Array.getElem?_toList]
  rw [e, ← ev2_pick xs.toList, Array.length_toList]
theorem getItem_tuple_2 {t sl : Addr} {tk : Tok} {items : Array Value} {Q : Value → Shared → Prop} (ht : IsTup s.heap t items) (hs : s.heap.IsSliceOf sl .none .none (.int 2 tk))
    (h : Q (.ref s.heap.objs.size) { s with heap := s.heap.push { cls := .type "tuple", data := .seq (ev2 items.toList).toArray } })
    (hsz : items.size ≤ sizeLine) : wpAny (model prog w) A (getItem (.ref t) (.ref sl)) Q E s := by
  have htake : sizeOk (.seq (ev2 items.toList).toArray) := by
    show (ev2 items.toList).toArray.size ≤ sizeLine
    rw [List.size_toArray]
    exact Nat.le_trans (ev2_le items.toList) (by rw [Array.length_toList]; exact hsz)
  obtain ⟨os, hos, hcs, hds⟩ := id hs
  have hTs : s.TypeIs (.ref sl) "slice" := ⟨os, hos, hcs⟩
  unfold getItem
  try with_reducible refine wpAny_holding ?_
  first | refine wpAny_bind (wpAny_pure ?_) | skip
  refine wpAny_bind (wpAny_sequenceKey ht.typeIs (by decide) ?_)
  refine wpAny_bind (wpAny_callSpecial?_slot (name := Str.ofString "__getitem__") ht.typeIs PyProof.Rows.slot_tuple_getitem
    (wpAny_call_entry PyProof.Rows.slot_tuple_getitem ht.typeIs entry_tuple_getitem ?_ (args_tuple_getitem _ _)))
  show wpAny _ _ (Builtin.Tuple.tupleItemsOf (.ref t) >>= _) _ _ s
  refine wpAny_bind (tupleItemsOf_ ht ?_)
  refine wpAny_bind (wpAny_typeOf hTs ?_)
  rw [if_pos (by decide)]
  refine wpAny_bind (sliceApplied2 hs ?_)
  have hno : ¬ (((0 : Int) == 0 && (2 : Int) == 1 && ((items.size + 1) / 2) == items.size) = true) := by
    intro q
    rw [Bool.and_eq_true, Bool.and_eq_true] at q
    exact absurd q.1.2 (by decide)
  show wpAny _ _ (if ((0 : Int) == 0 && (2 : Int) == 1 && ((items.size + 1) / 2) == items.size) = true then _ else _) _ _ s
  rw [if_neg hno, pick2t]
  first
    | exact wpAny_bind (m := Builtin.Tuple.tupleExact _) (wpAny_newObj_type (wpAny_pure ⟨_, rfl, wpAny_pure h⟩) htake)
    | exact wpAny_bind (m := Builtin.Tuple.tupleExact _) (wpAny_newObj_type (wpAny_bind (wpAny_pure (wpAny_pure ⟨_, rfl, wpAny_pure h⟩))) htake)
    | exact wpAny_bind (wpAny_bind (m := Builtin.Tuple.tupleExact _) (wpAny_newObj_type (wpAny_pure (wpAny_pure ⟨_, rfl, wpAny_pure h⟩)) htake))
    | exact wpAny_bind (wpAny_bind (m := Builtin.Tuple.tupleExact _) (wpAny_newObj_type (wpAny_pure ⟨_, rfl, wpAny_pure h⟩) htake))
end
section
variable {X : Cx}
def tHalf (K : PySem.W.Frag) (te : TE) : TE := fun σ H Q => te σ H fun x H1 => ∃ a xs, x = .ref a ∧ (SqL K H1 a xs ∨ SqT K H1 a xs) ∧
  ∀ p H2, (∀ b o, H1 b = some o → H2 b = some o) → H1 p = none → (SqL K H2 p (ev2 xs) ∨ SqT K H2 p (ev2 xs)) → Q (.ref p) H2
theorem new_same {H : Hp} {p : Addr} {o : HO} (n : H p = none) : ∀ b u, H b = some u → upd H p o b = some u := fun b u e => by
  rw [upd_ne (ne_of_none e n)]
  exact e
theorem pe_half {e : Expr} {te : TE} {k : Nat} {p1 p3 pos : Pos} (he : PE X e te) : PE X (.Subscript e (.Slice none none (some (.Constant (.int 2) k p1)) p3) pos) (tHalf X.K te) := by
  refine ⟨fun pins s σ H Q I h => ?_⟩
  refine Subscript_ (thn (he.run pins s σ H _ I h) fun v s1 ⟨x, H1, I1, r1, q1⟩ => ?_)
  obtain ⟨a, xs, ex, hq, q⟩ := q1
  subst ex
  cases r1
  have hst : PO X (some (.Constant (.int 2) k p1)) (tPart (tC (.int 2))) := po_some pe_int
  refine wpAny_Slice (thn (po_none.run pins s1 σ H1 (fun o H2 => o = none ∧ H2 = H1) I1 ⟨rfl, rfl⟩) fun vl s2 ⟨l, H2, I2, pl, el, e2⟩ => ?_)
  subst el e2
  refine thn (po_none.run pins s2 σ H2 (fun o H3 => o = none ∧ H3 = H2) I2 ⟨rfl, rfl⟩) fun vu s3 ⟨u, H3, I3, pu, eu, e3⟩ => ?_
  subst eu e3
  refine thn (hst.run pins s3 σ H3 (fun o H4 => o = some 2 ∧ H4 = H3) I3 ⟨2, rfl, rfl, rfl⟩) fun vs s4 ⟨o, H4, I4, ps, eo, e4⟩ => ?_
  subst eo e4
  have I5 : Inv X pins σ H4 { s4 with heap := s4.heap.push { cls := .type "slice", data := .fields #[vl, vu, vs] } } := I4.kept (t' := s4.toks) fun b ob q => Heap.get?_push_of_some _ q
  rcases hq with hx | hx
  · obtain ⟨its, r, ht, hz⟩ := I5.list hx
    have hlen := r.length
    show wpAny (model X.prog X.w) X.A (subscriptTail e (.Slice none none (some (.Constant (.int 2) k p1)) p3) (.ref a) (.ref s4.heap.objs.size)) (EP X pins σ Q) X.xe { s4 with heap := s4.heap.push { cls := .type "slice", data := .fields #[vl, vu, vs] } }
    refine tail_any (ops := [.ref a, .ref s4.heap.objs.size]) ht.isList.typeIs (PySem.slot_list_getitem.lookup) ?_ (by with_unfolding_all rfl)
    refine wpAny_getItem_list_slice ht.isList (Heap.IsSliceOf.new _ vl vu vs) pl pu ps (by decide) ?_ (by rw [List.size_toArray]; omega)
    rw [pick2]
    refine ⟨.ref _, _, I5.laid (t' := s4.toks) (o := .lst (ev2 xs)) (fun b ob q => Heap.get?_push_of_some _ q) (Nat.le_refl _) ?_, rfl, q _ _ (new_same (I5.hok.fresh (Nat.le_refl _))) (I5.hok.fresh (Nat.le_refl _)) (.inl (SqL.of upd_same))⟩
    exact ⟨Nat.le_trans (ev2_le xs) hz, _, 0, ev2_vals r, Heap.get?_push_size _ rfl⟩
  · obtain ⟨its, r, ht, hz⟩ := I5.tuple hx
    have hlen := r.length
    cases pl
    cases pu
    cases ps
    show wpAny (model X.prog X.w) X.A (subscriptTail e (.Slice none none (some (.Constant (.int 2) k p1)) p3) (.ref a) (.ref s4.heap.objs.size)) (EP X pins σ Q) X.xe { s4 with heap := s4.heap.push { cls := .type "slice", data := .fields #[Value.none, Value.none, .int 2 _] } }
    refine tail_any (ops := [.ref a, .ref s4.heap.objs.size]) ht.typeIs (PyProof.Rows.slot_tuple_getitem.lookup) ?_ (by with_unfolding_all rfl)
    refine getItem_tuple_2 ht (Heap.IsSliceOf.new _ _ _ _) ?_ (by rw [List.size_toArray]; omega)
    refine ⟨.ref _, _, I5.laid (t' := s4.toks) (o := .tup (ev2 xs)) (fun b ob q => Heap.get?_push_of_some _ q) (Nat.le_refl _) ?_, rfl, q _ _ (new_same (I5.hok.fresh (Nat.le_refl _))) (I5.hok.fresh (Nat.le_refl _)) (.inr (SqT.of upd_same))⟩
    exact ⟨Nat.le_trans (ev2_le xs) hz, _, ev2_vals r, IsTup.new _ _⟩
theorem keepL {K : PySem.W.Frag} {H H' : Hp} {a : Addr} {xs : List V} (e : Same H H') (h : SqL K H a xs) : SqL K H' a xs := by
  rcases h with (h | ⟨o, h⟩) | h
  · exact .inl (.inl (e _ _ h))
  · exact .inl (.inr ⟨o, e _ _ h⟩)
  · exact .inr h
theorem keepT {K : PySem.W.Frag} {H H' : Hp} {a : Addr} {xs : List V} (e : Same H H') (h : SqT K H a xs) : SqT K H' a xs := by
  rcases h with (h | ⟨o, h⟩) | h
  · exact .inl (.inl (e _ _ h))
  · exact .inl (.inr ⟨o, e _ _ h⟩)
  · exact .inr h
def iSeq (K : PySem.W.Frag) (tl : TE) : TI := fun σ H R => tl σ H fun x H1 => ∃ a xs, x = .ref a ∧ (SqL K H1 a xs ∨ SqT K H1 a xs) ∧
  ∀ J G, Walk J xs.length G (YAt xs) → (∀ H', Same H1 H' → G H') → R J H1
theorem pi_seq {tg l : Expr} {tl : TE} (hl : PE X l tl) : PI X tg l (iSeq X.K tl) := by
  refine ⟨fun pins s σ H R I h => ?_⟩
  refine thn (hl.run pins s σ H _ I h) fun v s1 ⟨x, H1, I1, r1, q1⟩ => ?_
  obtain ⟨a, xs, e, hq, q⟩ := q1
  subst e
  cases r1
  rcases hq with hq | hq
  · have q := q _ _ walk_list fun H' s => keepL s hq
    obtain ⟨its, rv, p, hz⟩ := I1.list hq
    refine wpAny_pyIter_list p.isList ?_
    refine ⟨s1.heap.objs.size, [s1.heap.objs.size], _, _, H1, rfl, I1.kept (t' := s1.toks) fun b o e => Heap.get?_push_of_some _ e, turn_list a _, ⟨_, Heap.get?_push_size _ rfl, rfl, rfl⟩, fun b hb => ?_, q⟩
    have e : b = s1.heap.objs.size := by simpa using hb
    subst e
    exact I1.fpOk (Nat.le_refl _) (I1.hok.fresh (Nat.le_refl _))
  · have q := q _ _ walk_tup fun H' s => keepT s hq
    obtain ⟨its, rv, p, hz⟩ := I1.tuple hq
    refine wpAny_pyIter_tuple (show s1.heap.IsTuple a its.toArray from p) ?_
    refine ⟨s1.heap.objs.size, [s1.heap.objs.size], _, _, H1, rfl, I1.kept (t' := s1.toks) fun b o e => Heap.get?_push_of_some _ e, turn_tuple a _, ⟨_, Heap.get?_push_size _ rfl, rfl, rfl⟩, fun b hb => ?_, q⟩
    have e : b = s1.heap.objs.size := by simpa using hb
    subst e
    exact I1.fpOk (Nat.le_refl _) (I1.hok.fresh (Nat.le_refl _))
end
end Hf

/-! Rows read back: strokes, steps, groups. -/
namespace Wm
open PySem L2 TL
/-- the rows of the first digits, without the two ticks at the end -/
def pre : List Nat → List Int
  | [] => []
  | d :: ds => blk d ++ ([0, 0] ++ pre ds)
theorem pre_app : ∀ (ds : List Nat) (d : Nat), pre (ds ++ [d]) = pre ds ++ (blk d ++ [0, 0])
  | [], d => by show blk d ++ ([0, 0] ++ []) = [] ++ _; simp
  | e :: ds, d => by
    show blk e ++ ([0, 0] ++ pre (ds ++ [d])) = (blk e ++ ([0, 0] ++ pre ds)) ++ _
    rw [pre_app ds d]
    simp only [List.append_assoc]
theorem pre_row : ∀ ds : List Nat, pre ds ++ [0, 0] = rowL ds
  | [] => rfl
  | d :: ds => by
    show (blk d ++ ([0, 0] ++ pre ds)) ++ _ = blk d ++ ([0, 0] ++ rowL ds)
    rw [← pre_row ds]
    simp only [List.append_assoc]
theorem blk_V (d : Nat) : (List.replicate d [V.int 1, V.int 0]).flatten = (blk d).map V.int := by
  unfold blk
  rw [List.map_flatten, List.map_replicate]
  rfl
theorem pre_le : ∀ ds : List Nat, (∀ d ∈ ds, d ≤ 9) → (pre ds).length ≤ 20 * ds.length
  | [], _ => by decide
  | d :: ds, h => by
    have ih := pre_le ds fun y m => h y (List.mem_cons_of_mem _ m)
    have hd := h d (by simp)
    show (blk d ++ ([0, 0] ++ pre ds)).length ≤ _
    rw [List.length_append, List.length_append, blk_len]
    simp only [List.length_cons, List.length_nil]
    omega
theorem take_succ_app {α : Type} {l : List α} {i : Nat} {x : α} (h : l[i]? = some x) : l.take (i + 1) = l.take i ++ [x] := by
  rw [List.take_add_one, h]
  rfl
theorem take_succ_map {α β : Type} {l : List α} {i : Nat} {x : α} (f : α → β) (h : l[i]? = some x) : (l.take i).map f ++ [f x] = (l.take (i + 1)).map f := by
  rw [take_succ_app h, List.map_append]
  rfl
theorem row_sum : ∀ ds : List Nat, (rowL ds).length = 2 * (ds.sum + ds.length + 1)
  | [] => rfl
  | d :: ds => by
    have ih := row_sum ds
    show (blk d ++ ([0, 0] ++ rowL ds)).length = _
    rw [List.length_append, List.length_append, blk_len, ih, List.sum_cons]
    simp only [List.length_cons, List.length_nil]
    omega
theorem row_le (ds : List Nat) (N : Num ds) : (rowL ds).length ≤ 100 := by
  have h := rowL_le ds fun d m => (N.dig d m).2
  have l := N.len
  omega
theorem row_bits : ∀ (ds : List Nat) (z : Int), z ∈ rowL ds → z = 0 ∨ z = 1
  | [], z, h => by
    have h : z ∈ [0, 0] := h
    simp only [List.mem_cons, List.not_mem_nil, or_false, or_self] at h
    exact .inl h
  | d :: ds, z, h => by
    have h : z ∈ blk d ++ ([0, 0] ++ rowL ds) := h
    rw [List.mem_append, List.mem_append] at h
    rcases h with h | h | h
    · obtain ⟨l, hl, hz⟩ := List.mem_flatten.mp h
      rw [(List.mem_replicate.mp hl).2] at hz
      simp only [List.mem_cons, List.not_mem_nil, or_false] at hz
      exact hz.symm
    · simp only [List.mem_cons, List.not_mem_nil, or_false, or_self] at h
      exact .inl h
    · exact row_bits ds z h
/-! strokes -/
def ones : Nat → List Int → List Nat
  | _, [] => []
  | o, x :: xs => if x = 1 then o :: ones (o + 1) xs else ones (o + 1) xs
theorem ones_app : ∀ (a : List Int) (o : Nat) (b : List Int), ones o (a ++ b) = ones o a ++ ones (o + a.length) b
  | [], o, b => rfl
  | x :: a, o, b => by
    have ih := ones_app a (o + 1) b
    have e : o + (x :: a).length = o + 1 + a.length := by rw [List.length_cons]; omega
    rw [e]
    show (if x = 1 then o :: ones (o + 1) (a ++ b) else ones (o + 1) (a ++ b)) = (if x = 1 then o :: ones (o + 1) a else ones (o + 1) a) ++ _
    rw [ih]
    by_cases c : x = 1
    · rw [if_pos c, if_pos c]; rfl
    · rw [if_neg c, if_neg c]
theorem ones_mem : ∀ (xs : List Int) (o k : Nat), k ∈ ones o xs ↔ ∃ j, k = o + j ∧ xs[j]? = some 1
  | [], o, k => by simp [ones]
  | x :: xs, o, k => by
    have ih := ones_mem xs (o + 1) k
    show k ∈ (if x = 1 then o :: ones (o + 1) xs else ones (o + 1) xs) ↔ _
    constructor
    · intro h
      by_cases c : x = 1
      · rw [if_pos c] at h
        rcases List.mem_cons.mp h with e | e
        · exact ⟨0, by omega, by rw [c]; rfl⟩
        · obtain ⟨j, e1, e2⟩ := ih.mp e
          exact ⟨j + 1, by omega, by simpa using e2⟩
      · rw [if_neg c] at h
        obtain ⟨j, e1, e2⟩ := ih.mp h
        exact ⟨j + 1, by omega, by simpa using e2⟩
    · rintro ⟨j, e1, e2⟩
      cases j with
      | zero =>
        have c : x = 1 := Option.some.inj e2
        rw [if_pos c]
        exact List.mem_cons.mpr (.inl (by omega))
      | succ j =>
        have m : k ∈ ones (o + 1) xs := ih.mpr ⟨j, by omega, by simpa using e2⟩
        by_cases c : x = 1
        · rw [if_pos c]; exact List.mem_cons_of_mem _ m
        · rw [if_neg c]; exact m
theorem ones_blk (o d : Nat) : ones o (blk (d + 1)) = ones o (blk d) ++ [o + 2 * d] := by
  rw [blk_add, ones_app, blk_len]
  rfl
theorem ones_end (a : List Int) (o : Nat) : ones o (a ++ [0, 0]) = ones o a := by
  rw [ones_app]
  show ones o a ++ [] = _
  rw [List.append_nil]
theorem step2 (s : List Nat) (d : Nat) : ones 0 (pre s ++ blk (d + 1)) = ones 0 (pre s ++ blk d) ++ [(pre s).length + 2 * d] := by
  rw [ones_app, ones_app, ones_blk, List.append_assoc, Nat.zero_add]
theorem step4 (s : List Nat) (d : Nat) : ones 0 (pre (s ++ [d]) ++ blk 1) = ones 0 (pre s ++ blk d) ++ [(pre s).length + 2 * d + 2] := by
  rw [ones_app, pre_app, ← List.append_assoc, ones_end]
  have e : ((pre s ++ blk d) ++ ([0, 0] : List Int)).length = (pre s).length + 2 * d + 2 := by
    rw [List.length_append, List.length_append, blk_len]
    rfl
  rw [e, Nat.zero_add]
  rfl
theorem ones_row (s : List Nat) (d : Nat) : ones 0 (rowL (s ++ [d])) = ones 0 (pre s ++ blk d) := by
  rw [← pre_row, pre_app, ← List.append_assoc, ones_end, ones_end]
theorem ones_inj {ds es : List Nat} (h1 : ∀ d ∈ ds, 1 ≤ d) (h2 : ∀ e ∈ es, 1 ≤ e) (h : ones 0 (rowL ds) = ones 0 (rowL es)) : ds = es := by
  rcases rows_part ds es h1 h2 with q | ⟨k, q, _⟩ | ⟨k, q, _⟩
  · exact q
  · have m : k ∈ ones 0 (rowL ds) := (ones_mem _ _ _).mpr ⟨k, by omega, q.one⟩
    rw [h] at m
    obtain ⟨j, e1, e2⟩ := (ones_mem _ _ _).mp m
    rw [show j = k by omega, q.two] at e2
    cases e2
  · have m : k ∈ ones 0 (rowL es) := (ones_mem _ _ _).mpr ⟨k, by omega, q.two⟩
    rw [← h] at m
    obtain ⟨j, e1, e2⟩ := (ones_mem _ _ _).mp m
    rw [show j = k by omega, q.one] at e2
    cases e2
def St (l : List Nat) : Prop := ∀ (k a b : Nat), l[k]? = some a → l[k + 1]? = some b → b = a + 2 ∨ b = a + 4
theorem St.cons {x : Nat} {l : List Nat} (h : ∀ y, l.head? = some y → y = x + 2 ∨ y = x + 4) (s : St l) : St (x :: l) := by
  intro k a b e1 e2
  cases k with
  | zero =>
    have e : x = a := Option.some.inj e1
    subst e
    refine h b ?_
    rw [List.head?_eq_getElem?]
    exact e2
  | succ k => exact s k a b (by simpa using e1) (by simpa using e2)
theorem steps_blk {l : List Int} (hl : ∀ o, St (ones o l) ∧ ∀ y, (ones o l).head? = some y → y = o) : ∀ (d o : Nat), St (ones o (blk d ++ ([0, 0] ++ l))) ∧ ∀ y, (ones o (blk d ++ ([0, 0] ++ l))).head? = some y → (y = o ∨ y = o + 2)
  | 0, o => by
    have h := hl (o + 2)
    exact ⟨h.1, fun y e => .inr (h.2 y e)⟩
  | d + 1, o => by
    have ih := steps_blk hl d (o + 2)
    have e : ones o (blk (d + 1) ++ ([0, 0] ++ l)) = o :: ones (o + 2) (blk d ++ ([0, 0] ++ l)) := by
      rw [blk_succ]
      rfl
    rw [e]
    refine ⟨ih.1.cons fun y q => ?_, fun y q => .inl (Option.some.inj q).symm⟩
    rcases ih.2 y q with z | z
    · exact .inl z
    · exact .inr (by omega)
theorem steps_row : ∀ (es : List Nat), (∀ d ∈ es, 1 ≤ d) → ∀ o, St (ones o (rowL es)) ∧ ∀ y, (ones o (rowL es)).head? = some y → y = o
  | [], _, o => ⟨fun k a b (e : (none : Option Nat) = some a) => (by cases e), fun y (e : (none : Option Nat) = some y) => by cases e⟩
  | d :: es, h, o => by
    have ih := steps_row es fun y m => h y (List.mem_cons_of_mem _ m)
    obtain ⟨f, rfl⟩ : ∃ f, d = f + 1 := ⟨d - 1, by have := h d (by simp); omega⟩
    have q := steps_blk ih (f + 1) o
    refine ⟨q.1, fun y e => ?_⟩
    have e' : ones o (rowL ((f + 1) :: es)) = o :: ones (o + 2) (blk f ++ ([0, 0] ++ rowL es)) := by
      show ones o (blk (f + 1) ++ _) = _
      rw [blk_succ]
      rfl
    rw [e'] at e
    exact (Option.some.inj e).symm
theorem first_row (d : Nat) (es : List Nat) (h : 1 ≤ d) : (ones 0 (rowL (d :: es)))[0]? = some 0 := by
  obtain ⟨f, rfl⟩ : ∃ f, d = f + 1 := ⟨d - 1, by omega⟩
  show (ones 0 (blk (f + 1) ++ _))[0]? = _
  rw [blk_succ]
  rfl
/-! groups -/
def gaps : List Int → List Nat
  | [] => [0]
  | z :: zs => if z = 1 then (match gaps zs with | [] => [1] | g :: gs => (g + 1) :: gs) else 0 :: gaps zs
theorem gaps_ne : ∀ zs, gaps zs ≠ []
  | [] => by simp [gaps]
  | z :: zs => by
    show (if z = 1 then (match gaps zs with | [] => [1] | g :: gs => (g + 1) :: gs) else 0 :: gaps zs) ≠ []
    by_cases c : z = 1
    · rw [if_pos c]
      split <;> simp
    · rw [if_neg c]; simp
def bits (zs : List Int) : List Nat := zs.map fun z => if z = 1 then 49 else 48
theorem joinL_cons {s : List Nat} {p : List Nat} {ps : List (List Nat)} (h : ps ≠ []) : joinL s (p :: ps) = p ++ (s ++ joinL s ps) := by
  cases ps with
  | nil => exact absurd rfl h
  | cons q r => rfl
theorem joinL_one (s p : List Nat) : joinL s [p] = p := rfl
theorem map_ne {α β : Type} {f : α → β} {l : List α} (h : l ≠ []) : l.map f ≠ [] := fun e => h (List.map_eq_nil_iff.mp e)
theorem gaps_join : ∀ zs, bits zs = joinL [48] ((gaps zs).map fun g => List.replicate g 49)
  | [] => rfl
  | z :: zs => by
    have ih := gaps_join zs
    have ne := gaps_ne zs
    show (if z = 1 then 49 else 48) :: bits zs = joinL [48] ((if z = 1 then (match gaps zs with | [] => [1] | g :: gs => (g + 1) :: gs) else 0 :: gaps zs).map _)
    by_cases c : z = 1
    · rw [if_pos c, if_pos c]
      cases e : gaps zs with
      | nil => exact absurd e ne
      | cons g gs =>
        rw [e] at ih
        rw [ih]
        cases gs with
        | nil => rfl
        | cons g2 gs => rfl
    · rw [if_neg c, if_neg c, List.map_cons, joinL_cons (map_ne ne), ← ih]
      rfl
theorem gaps_sum : ∀ zs, (gaps zs).sum ≤ zs.length ∧ (gaps zs).length ≤ zs.length + 1
  | [] => by decide
  | z :: zs => by
    have ih := gaps_sum zs
    show (if z = 1 then (match gaps zs with | [] => [1] | g :: gs => (g + 1) :: gs) else 0 :: gaps zs).sum ≤ zs.length + 1 ∧ (if z = 1 then (match gaps zs with | [] => [1] | g :: gs => (g + 1) :: gs) else 0 :: gaps zs).length ≤ zs.length + 1 + 1
    by_cases c : z = 1
    · rw [if_pos c]
      cases e : gaps zs with
      | nil => exact absurd e (gaps_ne zs)
      | cons g gs =>
        rw [e, List.sum_cons, List.length_cons] at ih
        show ((g + 1) :: gs).sum ≤ _ ∧ ((g + 1) :: gs).length ≤ _
        rw [List.sum_cons, List.length_cons]
        omega
    · rw [if_neg c, List.sum_cons, List.length_cons]
      omega
theorem mem_sum {g : Nat} : ∀ {l : List Nat}, g ∈ l → g ≤ l.sum
  | a :: l, h => by
    rw [List.sum_cons]
    rcases List.mem_cons.mp h with e | e
    · omega
    · have := mem_sum e
      omega
theorem gaps_le {zs : List Int} {g : Nat} (h : g ∈ gaps zs) : g ≤ zs.length := by
  have h1 := (gaps_sum zs).1
  have h2 : g ≤ (gaps zs).sum := mem_sum h
  omega
theorem ev2_row : ∀ ds, Hf.ev2 (rowL ds) = (match ds with | [] => [0] | d :: r => List.replicate d 1 ++ (0 :: Hf.ev2 (rowL r)))
  | [] => rfl
  | d :: r => by
    show Hf.ev2 (blk d ++ ([0, 0] ++ rowL r)) = List.replicate d 1 ++ (0 :: Hf.ev2 (rowL r))
    induction d with
    | zero => rfl
    | succ d ih =>
      rw [blk_succ, List.replicate_succ]
      show (1 : Int) :: Hf.ev2 (blk d ++ ([0, 0] ++ rowL r)) = _
      rw [ih]
      rfl
theorem gaps_rep (l : List Int) (d : Nat) : gaps (List.replicate d 1 ++ (0 :: l)) = d :: gaps l := by
  induction d with
  | zero => rfl
  | succ d ih =>
    rw [List.replicate_succ]
    show (if (1 : Int) = 1 then (match gaps (List.replicate d 1 ++ (0 :: l)) with | [] => [1] | g :: gs => (g + 1) :: gs) else _) = _
    rw [if_pos rfl, ih]
theorem gaps_row : ∀ ds, gaps (Hf.ev2 (rowL ds)) = ds ++ [0, 0]
  | [] => rfl
  | d :: r => by
    rw [ev2_row]
    show gaps (List.replicate d 1 ++ (0 :: Hf.ev2 (rowL r))) = _
    rw [gaps_rep, gaps_row r]
    rfl
end Wm

/-! Ticks of bent rows as data. -/
namespace Wm
open PySem L2
inductive Tk : PyData → Prop
  | int {i : Int} : i.natAbs < 1000000 → Tk (.int i)
  | bl (b : Bool) : Tk (.bool b)
  | non : Tk .none
  | one : Tk (.str "1")
  | lst : Tk (.list [.int 0])
def Item (K : PySem.W.Frag) (H : Hp) (x : V) : Prop := ∃ d, Dp K H x d ∧ Tk d
theorem sqL_keep {K : PySem.W.Frag} {H H' : Hp} {a : Addr} {xs : List V} (e : Same H H') (h : SqL K H a xs) : SqL K H' a xs := by
  rcases h with (h | ⟨o, h⟩) | h
  · exact .inl (.inl (e _ _ h))
  · exact .inl (.inr ⟨o, e _ _ h⟩)
  · exact .inr h
theorem tk_keep {K : PySem.W.Frag} {H H' : Hp} {x : V} {d : PyData} (e : Same H H') (h : Dp K H x d) (t : Tk d) : Dp K H' x d := by
  cases t with
  | int _ => cases h; exact .int _
  | bl b => cases h; exact .bl _
  | non => cases h; exact .non
  | one => cases h; exact .str _
  | lst =>
    cases h with
    | lst q a =>
      refine .lst (sqL_keep e q) ?_
      cases a with
      | cons b c =>
        cases b
        cases c
        exact .cons (.int _) .nil
theorem Item.keep {K : PySem.W.Frag} {H H' : Hp} {x : V} (e : Same H H') (h : Item K H x) : Item K H' x := let ⟨d, a, b⟩ := h; ⟨d, tk_keep e a b, b⟩
theorem tks_keep {K : PySem.W.Frag} {H H' : Hp} (e : Same H H') : ∀ {xs : List V} {ds : List PyData}, DpAll K H xs ds → (∀ d ∈ ds, Tk d) → DpAll K H' xs ds
  | _, _, .nil, _ => .nil
  | _, _, .cons a b, t => .cons (tk_keep e a (t _ (by simp))) (tks_keep e b fun d m => t d (List.mem_cons_of_mem _ m))
theorem items_data {K : PySem.W.Frag} {H : Hp} : ∀ {xs : List V}, (∀ x ∈ xs, Item K H x) → ∃ ds, DpAll K H xs ds ∧ (∀ d ∈ ds, Tk d) ∧ ds.length = xs.length
  | [], _ => ⟨[], .nil, by simp, rfl⟩
  | x :: xs, h => by
    obtain ⟨d, a, b⟩ := h x (by simp)
    obtain ⟨ds, c1, c2, c3⟩ := items_data (xs := xs) fun y m => h y (List.mem_cons_of_mem _ m)
    refine ⟨d :: ds, .cons a c1, fun y m => ?_, by rw [List.length_cons, List.length_cons, c3]⟩
    rcases List.mem_cons.mp m with q | q
    · rw [q]; exact b
    · exact c2 y q
theorem item_int {K : PySem.W.Frag} {H : Hp} {i : Int} (h : i.natAbs < 1000000) : Item K H (.int i) := ⟨_, .int i, .int h⟩
theorem tk_lay {d : PyData} (t : Tk d) : d.canLay0 = true ∧ d.depth ≤ 1 := by
  cases t with
  | int _ => exact ⟨by simp [PyData.canLay0], by simp [PyData.depth]⟩
  | bl b => exact ⟨by simp [PyData.canLay0], by simp [PyData.depth]⟩
  | non => exact ⟨by simp [PyData.canLay0], by simp [PyData.depth]⟩
  | one => exact ⟨by decide +kernel, by simp [PyData.depth]⟩
  | lst => exact ⟨by simp [PyData.canLay0, PyData.canLayAll0], by simp [PyData.depth, PyData.depthAll]⟩
theorem tks_lay : ∀ {ds : List PyData}, (∀ d ∈ ds, Tk d) → PyData.canLayAll0 ds = true ∧ PyData.depthAll ds ≤ 1
  | [], _ => by simp [PyData.canLayAll0, PyData.depthAll]
  | d :: ds, h => by
    have h1 := tk_lay (h d (by simp))
    have h2 := tks_lay (ds := ds) fun y m => h y (List.mem_cons_of_mem _ m)
    simp only [PyData.canLayAll0, PyData.depthAll, h1.1, h2.1, Bool.and_self, true_and]
    omega
theorem tks_shaped {ds : List PyData} (h : ∀ d ∈ ds, Tk d) : SeqAt.shaped (.list ds) = true := by
  have q := tks_lay h
  have e : decide ((PyData.list ds).depth ≤ 64) = true := decide_eq_true (by simp only [PyData.depth]; omega)
  show ((PyData.list ds).canLay0 && _) = true
  rw [e, Bool.and_true]
  exact q.1
theorem tk_show {d : PyData} (t : Tk d) : d.showable = true ∧ d.hasDict = false ∧ d.leavesShort 13 = true ∧ d.weight ≤ 30 := by
  cases t with
  | @int i h =>
    have hl : i.natAbs.log2 < 20 ∨ i = 0 := by
      by_cases z : i = 0
      · exact .inr z
      · exact .inl ((Nat.log2_lt (by omega)).mpr (by omega))
    refine ⟨decide_eq_true ?_, rfl, decide_eq_true (PyData.shown_int_le (by omega)), ?_⟩
    · rcases hl with z | z
      · omega
      · subst z; decide
    · rcases hl with z | z
      · simp only [PyData.weight]; split <;> omega
      · subst z; decide
  | bl b => exact ⟨rfl, rfl, rfl, by simp [PyData.weight]⟩
  | non => exact ⟨rfl, rfl, rfl, by simp [PyData.weight]⟩
  | one => exact ⟨rfl, rfl, by decide +kernel, by decide +kernel⟩
  | lst => exact ⟨by decide +kernel, rfl, by decide +kernel, by decide +kernel⟩
theorem tks_show : ∀ {ds : List PyData}, (∀ d ∈ ds, Tk d) → PyData.showableAll ds = true ∧ PyData.hasDictAll ds = false ∧ PyData.leavesShortAll 13 ds = true ∧ PyData.weightAll ds ≤ 31 * ds.length
  | [], _ => by simp [PyData.showableAll, PyData.hasDictAll, PyData.leavesShortAll, PyData.weightAll]
  | d :: ds, h => by
    have h1 := tk_show (h d (by simp))
    have h2 := tks_show (ds := ds) fun y m => h y (List.mem_cons_of_mem _ m)
    simp only [PyData.showableAll, PyData.hasDictAll, PyData.leavesShortAll, PyData.weightAll, h1.1, h1.2.1, h1.2.2.1, h2.1, h2.2.1, h2.2.2.1, Bool.and_self, Bool.or_self, true_and, List.length_cons]
    omega
theorem tks_shown {ds : List PyData} (h : ∀ d ∈ ds, Tk d) (l : ds.length ≤ 1000) : (PyData.list ds).shown.length ≤ sizeLine :=
  PyData.shown_fits (B := 13) (by decide) (by decide) (tks_show h).2.2.1 (Nat.le_trans (tks_show h).2.2.2 (by omega))
def isI : V → Bool
  | .int _ => true
  | _ => false
def isBit (x : V) : Bool := decide (x = .int 0) || decide (x = .int 1)
theorem all_ints {xs : List V} (h : ∀ x ∈ xs, isI x = true) : ∃ zs : List Int, xs = zs.map V.int := by
  induction xs with
  | nil => exact ⟨[], rfl⟩
  | cons x xs ih =>
    obtain ⟨zs, e⟩ := ih fun y m => h y (List.mem_cons_of_mem _ m)
    have hx := h x (by simp)
    cases x with
    | int i => exact ⟨i :: zs, by rw [e]; rfl⟩
    | _ => cases hx
theorem all_bits {xs : List V} (h : ∀ x ∈ xs, isBit x = true) : ∃ zs : List Int, xs = zs.map V.int ∧ ∀ z ∈ zs, z = 0 ∨ z = 1 := by
  induction xs with
  | nil => exact ⟨[], rfl, by simp⟩
  | cons x xs ih =>
    obtain ⟨zs, e, b⟩ := ih fun y m => h y (List.mem_cons_of_mem _ m)
    have hx := h x (by simp)
    have hc : x = .int 0 ∨ x = .int 1 := by
      rcases Bool.or_eq_true_iff.mp hx with q | q
      · exact .inl (of_decide_eq_true q)
      · exact .inr (of_decide_eq_true q)
    have : ∃ i : Int, x = .int i ∧ (i = 0 ∨ i = 1) := by
      rcases hc with q | q
      · exact ⟨0, q, .inl rfl⟩
      · exact ⟨1, q, .inr rfl⟩
    obtain ⟨i, rfl, hi⟩ := this
    refine ⟨i :: zs, by rw [e]; rfl, fun z m => ?_⟩
    rcases List.mem_cons.mp m with q | q
    · rw [q]; exact hi
    · exact b z q
/-- what isinstance asks of such a tick -/
theorem tyx_of {K : PySem.W.Frag} {H : Hp} {x : V} (h : Item K H x) : ∃ (n : String) (a b : Bool), TyX K H x (.type n) ∧ PySem.W.kitOne K (.type n) (.type "int") = some a ∧
    PySem.W.kitOne K (.type n) (.type "bool") = some b ∧ (a && !b) = isI x := by
  obtain ⟨d, h, t⟩ := h
  cases t with
  | int _ => cases h; exact ⟨"int", true, false, .base (.int _), kit_ty (by decide +kernel), kit_ty (by decide +kernel), rfl⟩
  | bl b => cases h; exact ⟨"bool", true, true, .base (.bl _), kit_ty (by decide +kernel), kit_ty (by decide +kernel), rfl⟩
  | non => cases h; exact ⟨"NoneType", false, false, .base .non, kit_ty (by decide +kernel), kit_ty (by decide +kernel), rfl⟩
  | one => cases h; exact ⟨"str", false, false, .base (.str _), kit_ty (by decide +kernel), kit_ty (by decide +kernel), rfl⟩
  | lst =>
    cases h with
    | lst q a =>
      rcases q with (q | ⟨o, q⟩) | q
      · exact ⟨"list", false, false, .base (.lst q), kit_ty (by decide +kernel), kit_ty (by decide +kernel), rfl⟩
      · exact ⟨"list", false, false, .base (.frz q), kit_ty (by decide +kernel), kit_ty (by decide +kernel), rfl⟩
      · obtain ⟨o, xs, n, e, c, _⟩ := q
        exact ⟨"list", false, false, .kList e c, kit_ty (by decide +kernel), kit_ty (by decide +kernel), rfl⟩
/-- a list or a tuple -/
def SqA (K : PySem.W.Frag) (H : Hp) (a : Addr) (xs : List V) : Prop := SqL K H a xs ∨ SqT K H a xs
theorem SqA.keep {K : PySem.W.Frag} {H H' : Hp} {a : Addr} {xs : List V} (e : Same H H') (h : SqA K H a xs) : SqA K H' a xs := h.imp (sqL_keep e) (sameT e)
end Wm

/-! Texts of digits: halves, groups, the number they tell. -/
namespace Wm
open PySem L2 TL
def oneS (g : Nat) : Str := ⟨(List.replicate g 49).toArray⟩
def bitS (z : Int) : Str := if z = 1 then "1" else "0"
def decS (g : Nat) : Str := ((toString (g : Int) : String) : Str)
theorem bit_str {z : Int} (h : z = 0 ∨ z = 1) : ((toString z : String) : Str) = bitS z := by
  rcases h with e | e <;> subst e <;> decide +kernel
theorem tl_bit (z : Int) : tl (bitS z) = [if z = 1 then 49 else 48] := by
  unfold bitS
  by_cases c : z = 1
  · rw [if_pos c, if_pos c]; decide +kernel
  · rw [if_neg c, if_neg c]; decide +kernel
theorem joinL_nil : ∀ ps : List (List Nat), joinL [] ps = ps.flatten
  | [] => rfl
  | [p] => by show p = [p].flatten; simp
  | p :: q :: r => by
    show p ++ ([] ++ joinL [] (q :: r)) = _
    rw [joinL_nil (q :: r), List.nil_append]
    rfl
theorem tl_empty : tl ("" : Str) = [] := by decide +kernel
theorem tl_zero : tl ("0" : Str) = [48] := by decide +kernel
theorem tl_join0 (ys : List Str) : tl (Txt.join "" ys) = (ys.map tl).flatten := by
  rw [join_eq, tl_join, tl_empty, joinL_nil]
theorem bits_flat : ∀ zs : List Int, ((zs.map bitS).map tl).flatten = bits zs
  | [] => rfl
  | z :: zs => by
    rw [List.map_cons, List.map_cons, List.flatten_cons, bits_flat zs, tl_bit]
    rfl
theorem halves_eq (zs : List Int) : Txt.join "" (zs.map bitS) = Txt.join "0" ((gaps zs).map oneS) := by
  refine ext_tl ?_
  rw [tl_join0, bits_flat, gaps_join, join_eq, tl_join, tl_zero, List.map_map]
  rfl
theorem groups_eq (zs : List Int) : Txt.split (Txt.join "" (zs.map bitS)) "0" = (gaps zs).map oneS := by
  rw [halves_eq]
  refine split_join (s := 48) (S := []) tl_zero (by decide +kernel) (map_ne (gaps_ne zs)) fun p hp h => ?_
  obtain ⟨g, _, rfl⟩ := List.mem_map.mp hp
  have h : 48 ∈ List.replicate g 49 := h
  exact absurd (List.mem_replicate.mp h).2 (by decide)
theorem oneS_len (g : Nat) : (oneS g).length = g := by
  rw [len_tl]
  show (List.replicate g 49).length = g
  rw [List.length_replicate]
theorem halves_len (zs : List Int) : (Txt.join "" (zs.map bitS)).length = zs.length := by
  rw [len_tl, tl_join0, bits_flat]
  unfold bits
  rw [List.length_map]
theorem len4 : ∀ g : Fin 1001, (decS g.val).length ≤ 4 := by decide +kernel
theorem dec_len {g : Nat} (h : g ≤ 1000) : (decS g).length ≤ 4 := len4 ⟨g, by omega⟩
theorem dec_sum : ∀ {gs : List Nat}, (∀ g ∈ gs, g ≤ 1000) → ((gs.map decS).map (·.length)).sum ≤ 4 * gs.length
  | [], _ => by simp
  | g :: gs, h => by
    have h1 := dec_len (h g (by simp))
    have h2 := dec_sum (gs := gs) fun y m => h y (List.mem_cons_of_mem _ m)
    rw [List.map_cons, List.map_cons, List.sum_cons, List.length_cons]
    omega
theorem join0_len (ys : List Str) : (Txt.join "" ys).length = (ys.map (·.length)).sum := by
  rw [len_tl, tl_join0]
  induction ys with
  | nil => rfl
  | cons y ys ih => rw [List.map_cons, List.flatten_cons, List.length_append, ih, List.map_cons, List.sum_cons, len_tl]
theorem bit_sum (zs : List Int) : ((zs.map bitS).map (·.length)).sum = zs.length := by rw [← join0_len, halves_len]
theorem num_text : ∀ {ds : List Nat}, (∀ d ∈ ds, 1 ≤ d ∧ d ≤ 9) → Txt.join "" (ds.map decS) = numS ds
  | [], _ => by decide +kernel
  | d :: ds, h => by
    have ih := num_text (ds := ds) fun y m => h y (List.mem_cons_of_mem _ m)
    refine ext_tl ?_
    rw [tl_join0, List.map_cons, List.map_cons, List.flatten_cons, ← tl_join0, ih]
    have e : decS d = numS [d] := dig_str (h d (by simp))
    rw [e]
    rfl
/-- the number that a row of bits tells, if it is a row -/
def told (zs : List Int) : Str := Txt.join "" ((gaps (Hf.ev2 zs)).dropLast.dropLast.map decS)
theorem told_row {ds : List Nat} (h : ∀ d ∈ ds, 1 ≤ d ∧ d ≤ 9) : told (rowL ds) = numS ds := by
  unfold told
  rw [gaps_row, ← num_text h]
  congr 2
  show (ds ++ [0, 0]).dropLast.dropLast = ds
  rw [show (ds ++ [0, 0]) = (ds ++ [0]) ++ [0] by simp, List.dropLast_concat, List.dropLast_concat]
theorem digits_codes : ("123456789" : Str).cps.toList = [49, 50, 51, 52, 53, 54, 55, 56, 57] := by decide +kernel
theorem dig_text (t : Str) (h : ∀ c ∈ tl t, c ∈ ("123456789" : Str).cps.toList) : ∃ ds : List Nat, (∀ d ∈ ds, 1 ≤ d ∧ d ≤ 9) ∧ t = numS ds := by
  have h2 : ∀ c ∈ tl t, 49 ≤ c ∧ c ≤ 57 := fun c m => by
    have q := h c m
    rw [digits_codes] at q
    simp only [List.mem_cons, List.not_mem_nil, or_false] at q
    omega
  refine ⟨(tl t).map (· - 48), fun d m => ?_, ?_⟩
  · obtain ⟨c, mc, rfl⟩ := List.mem_map.mp m
    have := h2 c mc
    omega
  · refine ext_tl ?_
    show tl t = ((tl t).map (· - 48)).map (· + 48)
    rw [List.map_map]
    refine (List.map_id _).symm.trans (List.map_congr_left fun c m => ?_)
    have := h2 c m
    show c = c - 48 + 48
    omega
theorem num_codes {ds : List Nat} (h : ∀ d ∈ ds, 1 ≤ d ∧ d ≤ 9) : ∀ c ∈ tl (numS ds), c ∈ ("123456789" : Str).cps.toList := fun c m => by
  have m : c ∈ codes ds := m
  obtain ⟨d, md, rfl⟩ := List.mem_map.mp m
  exact dig_in (h d md)
def IsNum (t : Str) : Prop := ∃ ds, Num ds ∧ t = numS ds
theorem isnum_dig {ds : List Nat} : IsNum (numS ds) ↔ Num ds :=
  ⟨fun ⟨es, N, e⟩ => by rw [numS_inj e]; exact N, fun N => ⟨ds, N, rfl⟩⟩
theorem row_inj {ds es : List Nat} (N : Num ds) (M : Num es) (h : (rowL ds).map V.int = (rowL es).map V.int) : ds = es := by
  have e : rowL ds = rowL es := by
    have q := congrArg (List.map fun v => match v with | V.int i => i | _ => 0) h
    simpa [List.map_map, Function.comp_def] using q
  exact ones_inj (fun d m => (N.dig d m).1) (fun d m => (M.dig d m).1) (by rw [e])
theorem map_int_inj {xs ys : List Int} (h : xs.map V.int = ys.map V.int) : xs = ys := by
  have q := congrArg (List.map fun v => match v with | V.int i => i | _ => 0) h
  simpa [List.map_map, Function.comp_def] using q
/-- what number_of tells of a row -/
def Told (xs : List V) (v : V) : Prop := (∃ ds, Num ds ∧ xs = (rowL ds).map V.int ∧ v = .str (numS ds)) ∨ ((∀ ds, Num ds → xs ≠ (rowL ds).map V.int) ∧ v = .non)
theorem Told.uniq {xs : List V} {v u : V} (a : Told xs v) (b : Told xs u) : v = u := by
  rcases a with ⟨ds, N, e, rfl⟩ | ⟨n, rfl⟩
  · rcases b with ⟨es, M, f, rfl⟩ | ⟨n, _⟩
    · rw [row_inj N M (e.symm.trans f)]
    · exact absurd e (n ds N)
  · rcases b with ⟨es, M, f, rfl⟩ | ⟨_, rfl⟩
    · exact absurd f (n es M)
    · rfl
theorem Told.row {ds : List Nat} {v : V} (N : Num ds) (a : Told ((rowL ds).map V.int) v) : v = .str (numS ds) := a.uniq (.inl ⟨ds, N, rfl, rfl⟩)
end Wm

/-! Things as data: what may be asked whether it is a number. -/
namespace Wm
open PySem L2 TL
structure Tx (t : Str) : Prop where
  len : t.length ≤ 100
  asc : ∀ c ∈ tl t, c < 128
inductive Tg : PyData → Prop
  | int {i : Int} : i.natAbs < 1000000 → Tg (.int i)
  | bl (b : Bool) : Tg (.bool b)
  | non : Tg .none
  | str {t : Str} : Tx t → Tg (.str t)
  | lst {ts : List Str} : (∀ t ∈ ts, Tx t) → ts.length ≤ 100 → Tg (.list (ts.map .str))
  | tup {ts : List Str} : (∀ t ∈ ts, Tx t) → ts.length ≤ 100 → Tg (.tuple (ts.map .str))
structure Ob (K : PySem.W.Frag) (H : Hp) (x : V) (d : PyData) : Prop where
  dp : Dp K H x d
  tg : Tg d
theorem dp_strs {K : PySem.W.Frag} {H H' : Hp} : ∀ {xs : List V} {ts : List Str}, DpAll K H xs (ts.map PyData.str) → xs = ts.map V.str ∧ DpAll K H' (ts.map V.str) (ts.map PyData.str)
  | _, [], h => by cases h; exact ⟨rfl, .nil⟩
  | _, t :: ts, h => by
    cases h with
    | cons a b =>
      cases a
      obtain ⟨e, g⟩ := dp_strs (H' := H') (ts := ts) b
      subst e
      exact ⟨rfl, .cons (.str t) g⟩
theorem dp_strs' {K : PySem.W.Frag} {H : Hp} : ∀ ts : List Str, DpAll K H (ts.map V.str) (ts.map PyData.str)
  | [] => .nil
  | t :: ts => .cons (.str t) (dp_strs' ts)
theorem Ob.move {K : PySem.W.Frag} {H H' : Hp} {x : V} {d : PyData} (h : Ob K H x d) (f : ∀ p o, x = .ref p → H p = some o → (∀ ts : List Str, o = .lst (ts.map V.str) → H' p = some o) ∧ (∀ ts : List Str, o = .tup (ts.map V.str) → H' p = some o) ∧ (∀ ob u, o = .frz ob u → H' p = some o)) : Ob K H' x d := by
  obtain ⟨h, t⟩ := h
  cases t with
  | int q => cases h; exact ⟨.int _, .int q⟩
  | bl b => cases h; exact ⟨.bl _, .bl b⟩
  | non => cases h; exact ⟨.non, .non⟩
  | str q => cases h; exact ⟨.str _, .str q⟩
  | lst q l =>
    cases h with
    | lst s a =>
      obtain ⟨e, g⟩ := dp_strs (H' := H') a
      subst e
      refine ⟨.lst ?_ g, .lst q l⟩
      rcases s with (s | ⟨o, s⟩) | s
      · exact .inl (.inl ((f _ _ rfl s).1 _ rfl))
      · exact .inl (.inr ⟨o, (f _ _ rfl s).2.2 _ _ rfl⟩)
      · exact .inr s
  | tup q l =>
    cases h with
    | tup s a =>
      obtain ⟨e, g⟩ := dp_strs (H' := H') a
      subst e
      refine ⟨.tup ?_ g, .tup q l⟩
      rcases s with (s | ⟨o, s⟩) | s
      · exact .inl (.inl ((f _ _ rfl s).2.1 _ rfl))
      · exact .inl (.inr ⟨o, (f _ _ rfl s).2.2 _ _ rfl⟩)
      · exact .inr s
theorem Ob.keep {K : PySem.W.Frag} {H H' : Hp} {x : V} {d : PyData} (e : Same H H') (h : Ob K H x d) : Ob K H' x d :=
  h.move fun p o _ q => ⟨fun _ _ => e _ _ q, fun _ _ => e _ _ q, fun _ _ _ => e _ _ q⟩
theorem Ob.but {K : PySem.W.Frag} {H H' : Hp} {x : V} {d : PyData} {b : Addr} {n : Nat} (bag : Bag H b n) (e : But b H H') (h : Ob K H x d) : Ob K H' x d := by
  obtain ⟨c, i, k, m, z, ns, hb, _⟩ := bag
  refine h.move fun p o _ q => ?_
  by_cases pb : p = b
  · subst pb
    rw [hb] at q
    have q := Option.some.inj q
    subst q
    refine ⟨fun ts f => ?_, fun ts f => (by cases f), fun ob u f => (by cases f)⟩
    cases ts with
    | nil => simp at f
    | cons t ts => simp at f
  · exact ⟨fun _ _ => e _ _ pb q, fun _ _ => e _ _ pb q, fun _ _ _ => e _ _ pb q⟩
theorem tx_lay {t : Str} (h : Tx t) : PyData.leavesShort 13 (.str t) = true ∧ PyData.weight (.str t) ≤ 100 := by
  refine ⟨?_, h.len⟩
  show (t.cps.toList.all fun c => decide (c < 16 ^ 8)) = true
  rw [List.all_eq_true]
  intro c m
  have := h.asc c m
  exact decide_eq_true (by omega)
theorem strs_lay : ∀ {ts : List Str}, (∀ t ∈ ts, Tx t) → PyData.leavesShortAll 13 (ts.map .str) = true ∧ PyData.weightAll (ts.map .str) ≤ 101 * ts.length ∧ PyData.showableAll (ts.map .str) = true ∧ PyData.hasDictAll (ts.map .str) = false ∧ PyData.depthAll (ts.map .str) = 0 ∧ PyData.plainAll (ts.map .str) = true
  | [], _ => by simp [PyData.leavesShortAll, PyData.weightAll, PyData.showableAll, PyData.hasDictAll, PyData.depthAll, PyData.plainAll]
  | t :: ts, h => by
    have h1 := tx_lay (h t (by simp))
    have h2 := strs_lay (ts := ts) fun y m => h y (List.mem_cons_of_mem _ m)
    obtain ⟨a1, a2⟩ := h1
    obtain ⟨b1, b2, b3, b4, b5, b6⟩ := h2
    simp only [List.map_cons, PyData.leavesShortAll, PyData.weightAll, PyData.showableAll, PyData.hasDictAll, PyData.depthAll, PyData.plainAll, a1, b1, b3, b4, b5, b6, PyData.showable, PyData.hasDict, PyData.depth, PyData.plain, Bool.and_self, Bool.or_self, true_and, List.length_cons, and_true, Nat.max_self]
    omega
structure Shows (d : PyData) : Prop where
  sh : d.showable = true
  nd : d.hasDict = false
  dep : d.depth ≤ 60
  fit : d.shown.length ≤ sizeLine
theorem tg_shows {d : PyData} (t : Tg d) : Shows d := by
  cases t with
  | @int i h =>
    have hl : i.natAbs.log2 < 20 ∨ i = 0 := by
      by_cases z : i = 0
      · exact .inr z
      · exact .inl ((Nat.log2_lt (by omega)).mpr (by omega))
    refine ⟨decide_eq_true ?_, rfl, Nat.zero_le _, Nat.le_trans (PyData.shown_int_le (by omega)) (by decide)⟩
    rcases hl with z | z
    · omega
    · subst z; decide
  | bl b => exact ⟨rfl, rfl, Nat.zero_le _, by cases b <;> decide +kernel⟩
  | non => exact ⟨rfl, rfl, Nat.zero_le _, by decide +kernel⟩
  | str h =>
    have q := tx_lay h
    exact ⟨rfl, rfl, Nat.zero_le _, PyData.shown_fits (B := 13) (by decide) (by decide) q.1 (Nat.le_trans q.2 (by decide))⟩
  | lst h l =>
    obtain ⟨b1, b2, b3, b4, b5, b6⟩ := strs_lay h
    exact ⟨b3, b4, by simp only [PyData.depth, b5]; decide, PyData.shown_fits (B := 13) (by decide) (by decide) b1 (Nat.le_trans b2 (by omega))⟩
  | tup h l =>
    obtain ⟨b1, b2, b3, b4, b5, b6⟩ := strs_lay h
    exact ⟨b3, b4, by simp only [PyData.depth, b5]; decide, PyData.shown_fits (B := 13) (by decide) (by decide) b1 (Nat.le_trans b2 (by omega))⟩
/-- a number's text -/
def IsN (x : V) : Prop := ∃ ds, Num ds ∧ x = .str (numS ds)
/-- what isinstance asks of a thing: a text, or no text -/
theorem tys_of {K : PySem.W.Frag} {H : Hp} {x : V} {d : PyData} (h : Ob K H x d) : ∃ (n : String) (b : Bool), TyX K H x (.type n) ∧ PySem.W.kitOne K (.type n) (.type "str") = some b ∧ (b = true → ∃ t, x = .str t ∧ d = .str t ∧ Tx t) ∧ (b = false → ¬ IsN x) := by
  obtain ⟨h, t⟩ := h
  cases t with
  | int _ => cases h; exact ⟨"int", false, .base (.int _), kit_ty (by decide +kernel), (fun z => by cases z), fun _ ⟨ds, _, e⟩ => by cases e⟩
  | bl b => cases h; exact ⟨"bool", false, .base (.bl _), kit_ty (by decide +kernel), (fun z => by cases z), fun _ ⟨ds, _, e⟩ => by cases e⟩
  | non => cases h; exact ⟨"NoneType", false, .base .non, kit_ty (by decide +kernel), (fun z => by cases z), fun _ ⟨ds, _, e⟩ => by cases e⟩
  | str q => cases h; exact ⟨"str", true, .base (.str _), kit_ty (by decide +kernel), fun _ => ⟨_, rfl, rfl, q⟩, fun z => by cases z⟩
  | lst _ _ =>
    cases h with
    | lst q a =>
      rcases q with (q | ⟨o, q⟩) | q
      · exact ⟨"list", false, .base (.lst q), kit_ty (by decide +kernel), (fun z => by cases z), fun _ ⟨ds, _, e⟩ => by cases e⟩
      · exact ⟨"list", false, .base (.frz q), kit_ty (by decide +kernel), (fun z => by cases z), fun _ ⟨ds, _, e⟩ => by cases e⟩
      · obtain ⟨o, xs, n, e, c, _⟩ := q
        exact ⟨"list", false, .kList e c, kit_ty (by decide +kernel), (fun z => by cases z), fun _ ⟨ds, _, e⟩ => by cases e⟩
  | tup _ _ =>
    cases h with
    | tup q a =>
      rcases q with (q | ⟨o, q⟩) | q
      · exact ⟨"tuple", false, .base (.tup q), kit_ty (by decide +kernel), (fun z => by cases z), fun _ ⟨ds, _, e⟩ => by cases e⟩
      · exact ⟨"tuple", false, .fTuple q, kit_ty (by decide +kernel), (fun z => by cases z), fun _ ⟨ds, _, e⟩ => by cases e⟩
      · obtain ⟨o, xs, n, e, c, _⟩ := q
        exact ⟨"tuple", false, .kTuple e c, kit_ty (by decide +kernel), (fun z => by cases z), fun _ ⟨ds, _, e⟩ => by cases e⟩
theorem ob_num {K : PySem.W.Frag} {H : Hp} {ds : List Nat} (N : Num ds) : Ob K H (.str (numS ds)) (.str (numS ds)) :=
  ⟨.str _, .str ⟨by rw [numS_len]; have := N.len; omega, fun c m => by
    have m : c ∈ codes ds := m
    obtain ⟨d, md, rfl⟩ := List.mem_map.mp m
    have := (N.dig d md).2
    omega⟩⟩
theorem isN_str {t : Str} : IsN (.str t) ↔ IsNum t := ⟨fun ⟨ds, N, e⟩ => ⟨ds, N, V.str.inj e⟩, fun ⟨ds, N, e⟩ => ⟨ds, N, by rw [e]⟩⟩
theorem fresh_but {b p : Addr} {H H' : Hp} {n : Nat} (bag : Bag H b n) (e : But b H H') (f : H' p = none) : H p = none := by
  cases q : H p with
  | none => rfl
  | some o =>
    by_cases pb : p = b
    · obtain ⟨c, x, k, m, z, ns, h, _⟩ := bag
      obtain ⟨x', k', m', z', g⟩ := e.cel c ⟨x, k, m, z, h⟩
      rw [pb, g] at f
      cases f
    · rw [e.keep p o pb q] at f
      cases f
end Wm

/-! enumerate of a tuple, as a thing that a for walks. -/
namespace Es
open PySem PySem.Spec PyProof.Rows L2
theorem meets_ent (t : Addr) (its : Array Value) (m : Nat) (dd : Option Addr) (slo : Array (Option Value)) :
    Meets (Builtin.«enumerate.__new__» ⟨[.type "enumerate", .ref t], []⟩) (fun _ R s => s.heap.get? t = some { cls := .type "tuple", dict := dd, data := .seq its m, slots := slo } ∧
      R (.ok (.ret (.ref (s.heap.push { cls := .type "tuple_iterator", data := .fields #[.ref t, .int 0 0] }).objs.size))) { s with heap := (s.heap.push { cls := .type "tuple_iterator", data := .fields #[.ref t, .int 0 0] }).push { cls := .type "enumerate", data := .fields #[.none, .bool false, .ref s.heap.objs.size, rawInt 0, .none, .none] } }) :=
  .of_wp fun prog w A R s h => by
    obtain ⟨hp, gn, dr, tk, os⟩ := s
    obtain ⟨ht, h⟩ := h
    have hsub := sub_enumerate
    have hT : Heap.IsTuple (Shared.heap ⟨hp, gn, dr, tk, os⟩) t its := ⟨_, ht, rfl, m, rfl⟩
    wp_walk using AutoSeq1.wpAny_loadPart' ht
    refine wpAny_stack_any fun st => wpAny_pure ?_
    split
    · rename_i c _ _ _ _ _
      cases (c == Value.type "enumerate")
      · wp_walk using AutoSeq1.wpAny_loadPart' ht, wpAny_pyIter_tuple hT
        exact ⟨_, rfl, h⟩
      · wp_walk using AutoSeq1.wpAny_loadPart' ht, wpAny_pyIter_tuple hT
        exact ⟨_, rfl, h⟩
    · wp_walk using AutoSeq1.wpAny_loadPart' ht, wpAny_pyIter_tuple hT
      exact ⟨_, rfl, h⟩
section
variable {prog : Program} {w : World} {A : Around} {E : Value → Shared → Prop} {s : Shared}
theorem call_ent {t : Addr} {its : Array Value} {Q : Value → Shared → Prop} (ht : s.heap.IsTuple t its)
    (q : ∀ g, IsEnum g (s.heap.objs.size + 1) s.heap.objs.size 0 .none → g.IsTupleIter s.heap.objs.size t 0 → (∀ b o, s.heap.get? b = some o → g.get? b = some o) → Q (.ref (s.heap.objs.size + 1)) { s with heap := g }) :
    wpAny (model prog w) A (call (.type "enumerate") [.ref t]) Q E s := by
  obtain ⟨⟨tc, td, tdat, tsl⟩, h0, h1, m, h2⟩ := ht
  simp only at h1 h2
  subst h1 h2
  refine callType_new F.called_enumerate (by decide) (F.typeCall_enumerate_1 _) (F.newCall_enumerate_1 _) (fun ob => F.args_object_init_2 ob _) F.entry_enumerate_new (meets_ent t its m td tsl) ⟨h0, ?_⟩
  have hz : (s.heap.push { cls := .type "tuple_iterator", data := .fields #[.ref t, .int 0 0] }).objs.size = s.heap.objs.size + 1 := Heap.size_push ..
  have er : IsEnum ((s.heap.push { cls := .type "tuple_iterator", data := .fields #[.ref t, .int 0 0] }).push { cls := .type "enumerate", data := .fields #[.none, .bool false, .ref s.heap.objs.size, rawInt 0, .none, .none] }) (s.heap.objs.size + 1) s.heap.objs.size 0 .none := by
    rw [← hz]
    exact Heap.get?_push_size _ rfl
  show _ ∧ _
  rw [hz]
  exact ⟨⟨_, er, rfl⟩, q _ er ⟨_, Heap.get?_push_of_some _ (Heap.get?_push_size _ rfl), rfl, rfl⟩ fun b o x => Heap.get?_push_of_some _ (Heap.get?_push_of_some _ x)⟩
theorem tup_end {e it t : Addr} {i : Nat} {its : Array Value} {old : Value} {k : Int} {Q : Option Value → Shared → Prop} (hh : A.handled = none) (er : IsEnum s.heap e it k old) (ti : s.heap.IsTupleIter it t i) (ht : s.heap.IsTuple t its) (hx : its[i]? = none)
    (q : ∀ g, Heap.ExtBut it s.heap g → Q none { s with heap := g }) : wpAny (model prog w) A (pyNext (.ref e)) Q E s := by
  have te : s.TypeIs (.ref e) "enumerate" := ⟨_, er, rfl⟩
  unfold pyNext
  refine wpAny_bind (wpAny_attempt (wpAny_callSpecial?_slot (name := Str.ofString "__next__") te F.slot_enumerate_next (wpAny_call_entry F.slot_enumerate_next te F.entry_enumerate_next ?_ (F.args_enumerate_next_1 _))))
  show wpAny _ _ (field (.ref e) 2 >>= _) _ _ _
  refine wpAny_bind (wpAny_field er rfl (x := .ref it) rfl ?_)
  refine wpAny_bind (wpAny_nextOf_tuple_end (show A.in1.handled = none from hh) ti ht hx fun g x k1 ⟨o, k2, k3⟩ => ?_)
  refine wpAny_bind (wpAny_isInstance (T := "StopIteration") (b := true) ⟨o, k2, k3⟩ isSubtype_stop ?_)
  exact wpAny_pure (q _ k1)
end
def Iten (K : PySem.W.Frag) (a : Addr) : It :=
  ⟨fun i H => ∃ (xs : List V) (x : V), SqT K H a xs ∧ xs[i]? = some x, fun i H v H' => ∃ T x, v = .ref T ∧ H T = none ∧ H' = upd H T (.tup [.int (i : Nat), x]) ∧ ∀ xs, SqT K H a xs → xs[i]? = some x, fun i H => ∃ xs : List V, SqT K H a xs ∧ xs.length ≤ i⟩
theorem turn_ent {P : Program} {w : World} {K : PySem.W.Frag} {elts : List Expr} {kk : Nat} {tpos : Pos} (a e it : Addr) (nei : e ≠ it) (nea : e ≠ a) (nai : a ≠ it) :
    Turn P w K (.Tuple elts kk tpos) (Iten K a) [e, it] e (fun i h => (∃ old, IsEnum h e it ((i : Nat) : Int) old) ∧ h.IsTupleIter it a i) where
  mem := by simp
  obj := fun i h st b hb => by
    obtain ⟨⟨old, er⟩, o, ho, _, hd⟩ := st
    have hb' : b = e ∨ b = it := by simpa using hb
    rcases hb' with z | z
    · rw [z]
      exact ⟨_, er, fun v q => nomatch q⟩
    · rw [z]
      exact ⟨o, ho, fun v q => by rw [hd] at q; cases q⟩
  keep := fun i h g st k => by
    obtain ⟨⟨old, er⟩, ti⟩ := st
    exact ⟨⟨old, k e (by simp) _ er⟩, ti.at fun o q => k it (by simp) o q⟩
  item := by
    intro X hP hw hK hc i pins s σ H E I hf st hg
    subst hP hw hK
    obtain ⟨⟨old, er⟩, ti⟩ := st
    obtain ⟨xs, x, hq, hx⟩ := hg
    obtain ⟨its, rv, p, _⟩ := I.tuple hq
    obtain ⟨u, hu, ru⟩ := rv.get hx
    have el : e < s.heap.objs.size := Heap.lt_size er
    have il : it < s.heap.objs.size := by
      obtain ⟨_, q, _⟩ := id ti
      exact Heap.lt_size q
    have hlt : i < its.toArray.size := by
      have q := (List.getElem?_eq_some_iff.mp hu).1
      simpa using q
    have hd : X.A.in1.handled = none := I.ok.hd hc
    refine wpAny_pyNext_enum_itemD (Draws.tuple hd it a nai its.toArray) er ⟨ti, p⟩ hlt nei (by simp [nei, nea]) fun y g tk hy eo st2 hT hsz hk => ?_
    have ey : y = u := by
      rw [show its.toArray[i]? = some u by simpa using hu] at hy
      exact (Option.some.inj hy).symm
    subst ey
    refine ⟨_, rfl, wpAny_letOwnedTupleGo_enum (s := { s with heap := g, toks := tk + 1 }) eo fun g2 er2 sb => ?_⟩
    have hT2 : g2.get? s.heap.objs.size = some { cls := .type "tuple", data := .seq #[.int i tk, y] } := (sb.2 _ (Nat.ne_of_gt el)).trans hT
    have new : ObjOk X.prog X.w (upd H s.heap.objs.size (.tup [.int (i : Nat), x])) g2 s.heap.objs.size (.tup [.int (i : Nat), x]) := ⟨by show 2 ≤ sizeLine; decide, [.int i tk, y], .cons ⟨_, rfl⟩ (.cons ru .nil), ⟨_, hT2, rfl, _, rfl⟩⟩
    have I1 : Inv X pins σ (upd H s.heap.objs.size (.tup [.int (i : Nat), x])) { s with heap := g2, toks := tk + 1 } := I.turnedNew (ch := [e, it]) (fun b ob hb q => (sb.2 b (fun z => hb (by simp [z]))).trans (hk b ob (fun z => hb (by simp [z])) (fun z => hb (by simp [z])) q)) hf (Nat.le_refl _) new
    refine ⟨.ref s.heap.objs.size, _, I1, rfl, ⟨_, x, rfl, I.hok.fresh (Nat.le_refl _), rfl, fun ys hy => by rw [I.tuple_inj hy hq]; exact hx⟩, ⟨⟨y, ?_⟩, st2.1.at fun o q => (sb.2 it nei.symm).trans q⟩, fun b hb => ?_⟩
    · rw [show ((i + 1 : Nat) : Int) = (i : Int) + 1 by omega]
      exact er2
    · have lb : b < s.heap.objs.size := by
        have hb' : b = e ∨ b = it := by simpa using hb
        rcases hb' with z | z
        · rw [z]; exact el
        · rw [z]; exact il
      rw [upd_ne (Nat.ne_of_lt lb)]
      exact (hf b hb).1
  done := by
    intro X hP hw hK hc i pins s σ H E I hf st hg
    subst hP hw hK
    obtain ⟨⟨old, er⟩, ti⟩ := st
    obtain ⟨xs, hq, hx⟩ := hg
    obtain ⟨its, rv, p, _⟩ := I.tuple hq
    have hl := rv.length
    exact tup_end (I.ok.hd hc) er ti p (by simp; omega) fun g kg => ⟨rfl, I.turnedL (t' := s.toks) (ch := [e, it]) (fun b o hb q => kg b o (fun z => hb (by simp [z])) q) hf⟩
  self := fun A i s Q E st h => let ⟨⟨_, er⟩, _⟩ := st; wpAny_pyIter_enum er h
def iEnt (K : PySem.W.Frag) (ta : TA) : TI := fun σ H R => ta σ H fun vs H1 => ∃ a xs, vs = [.ref a] ∧ SqT K H1 a xs ∧ R (Iten K a) H1
theorem pi_ent {X : Cx} {e : Expr} {ta : TA} {p pos tpos : Pos} {elts : List Expr} {kk : Nat} (hg : Gl X "enumerate") (hm : X.mg "enumerate" = none) (ha : PA X [e] ta) (hs : starEach [e] X.env = [(false, eval e X.env)] := by rfl) :
    PI X (.Tuple elts kk tpos) (.Call (.Name "enumerate" p) [e] [] pos) (iEnt X.K ta) := by
  refine ⟨fun pins s σ H R I h => ?_⟩
  refine Call_ (ld_blt I hg hm boot_enumerate (PyProof.Rows.callWith_type1 (thn (ha.run pos pins s σ H _ I h) fun us s1 ⟨vs, H1, I1, r1, q1⟩ => ?_) hs rfl))
  obtain ⟨a, xs, ev, hq, q⟩ := q1
  subst ev
  cases r1 with
  | cons r rr =>
    cases rr
    cases r
    obtain ⟨its, rv, pt, _⟩ := I1.tuple hq
    obtain ⟨ot, hot, _⟩ := id pt
    have al : a < s1.heap.objs.size := Heap.lt_size hot
    refine call_ent (show s1.heap.IsTuple a its.toArray from pt) fun g er ti kg => wpAny_pyIter_enum er ?_
    have I2 : Inv X pins σ H1 { s1 with heap := g } := I1.kept (t' := s1.toks) kg
    refine ⟨s1.heap.objs.size + 1, [s1.heap.objs.size + 1, s1.heap.objs.size], _, _, H1, rfl, I2, turn_ent a (s1.heap.objs.size + 1) s1.heap.objs.size (Nat.succ_ne_self _) (Nat.ne_of_gt (Nat.lt_succ_of_lt al)) (Nat.ne_of_lt al), ⟨⟨.none, er⟩, ti⟩, fun b hb => ?_, q⟩
    have hb' : b = s1.heap.objs.size + 1 ∨ b = s1.heap.objs.size := by simpa using hb
    have le : s1.heap.objs.size ≤ b := by
      rcases hb' with z | z
      · rw [z]; exact Nat.le_add_right _ _
      · rw [z]; exact Nat.le_refl _
    exact I1.fpOk le (I1.hok.fresh le)
theorem walk_ent {K : PySem.W.Frag} {a : Addr} {xs : List V} : Walk (Iten K a) xs.length (fun H => SqT K H a xs) (YPair (fun i => some (.int (i : Nat))) (fun i => xs[i]?)) := by
  refine ⟨fun i _ hi q => ⟨xs, xs[i], q, by simp [hi]⟩, fun _ q => ⟨xs, q, Nat.le_refl _⟩, fun i H v H' _ q y => ?_⟩
  obtain ⟨T, x, y1, y2, y3, y4⟩ := y
  exact ⟨T, .int (i : Nat), x, y1, y2, y3, rfl, y4 xs q⟩
end Es

/-! xs.extend(t), t a tuple; comprehensions of two clauses by walks. -/
namespace Et
open PySem PySem.Spec PyProof.Rows L2
theorem ext_meets (l : Addr) (us : Array Value) (n : Nat) (b : Addr) (vs : Array Value) (m : Nat) (dd : Option Addr) (sl : Array (Option Value)) (h0 : ¬(!us.isEmpty && Builtin.List.listTooLong (us.size + vs.size)) = true) (h1 : us.size ≤ sizeLine) (h2 : us.size + vs.size ≤ sizeLine + 1) :
    Meets (Builtin.«list.extend» ⟨[.ref l, .ref b], []⟩) (fun _ R s => s.heap.get? l = some { cls := .type "list", dict := none, data := .seq us n, slots := #[] } ∧ s.heap.get? b = some { cls := .type "tuple", dict := dd, data := .seq vs m, slots := sl } ∧ R (.ok (.ret Value.none)) { s with heap := s.heap.update l (Obj.mapSeq fun x => x ++ vs), toks := s.toks }) :=
  .of_wp fun prog w A R s h => by
    obtain ⟨hp, g, d, tk, os⟩ := s
    obtain ⟨hl, hb, h⟩ := h
    have f1 := AutoSeq1.idx_int
    have f2 := AutoSeq1.sub_tuple_tuple
    have f3 := AutoSeq1.sub_list_list
    have f4 := AutoSeq1.sub_tuple_list
    have f5 := AutoSeq1.sub_list_tuple
    have hz' : (us ++ vs).size ≤ sizeLine + 1 := by
      rw [Array.size_append]
      exact h2
    wp_walk using (wpAny_updateSeq hl rfl (hz := h1) (_hz' := hz')), AutoSeq1.wpAny_loadPart' hl, AutoSeq1.wpAny_loadPart' hb
    exact ⟨_, rfl, h⟩
section
variable {X : Cx}
def rExtT (K : PySem.W.Frag) : V → List V → Hp → VK → Prop := fun x vs H Q => ∃ l b xs zs, x = .ref l ∧ vs = [.ref b] ∧ H l = some (.lst xs) ∧ SqT K H b zs ∧ xs.length + zs.length ≤ sizeLine ∧ Q .non (upd H l (.lst (xs ++ zs)))
theorem mt_extT : MtM X "list.extend" (rExtT X.K) := by
  intro pins s σ H x vs v us Q I rx rv h
  obtain ⟨l, b, xs, zs, rfl, rfl, hH, hB, hz, q⟩ := h
  cases rx
  obtain ⟨u, rfl, ru⟩ := rv.one
  cases ru
  obtain ⟨z, its, n, r, hl, e⟩ := I.lstM hH
  obtain ⟨its2, r2, p2, _⟩ := I.tuple hB
  obtain ⟨⟨c2, d2, a2, s2⟩, e2, k1, m, k2⟩ := p2
  simp only at k1 k2
  subst k1 k2
  have hl2 := r2.length
  have hsz : its.toArray.size + its2.toArray.size ≤ sizeLine := by
    rw [List.size_toArray, List.size_toArray]
    omega
  have hlong : ¬ (!its.toArray.isEmpty && Builtin.List.listTooLong (its.toArray.size + its2.toArray.size)) = true := by
    rw [notLongL hsz, Bool.and_false]
    exact Bool.false_ne_true
  refine call_meets F.slot_list_extend ⟨_, e, rfl⟩ F.entry_list_extend (F.args_list_extend_2 _ _) (ext_meets l its.toArray n b its2.toArray m d2 s2 hlong (by rw [List.size_toArray]; omega) (by omega)) ⟨e, e2, ?_⟩
  refine ⟨.non, _, I.lset (its' := its ++ its2) hH e (by simp) (r.append r2) ?_, rfl, q⟩
  rw [List.length_append]
  omega
end
/-- the outer clause of a comprehension of two -/
theorem out_it {J : It} {n : Nat} {G : Hp → Prop} {Y : Nat → Hp → V → Hp → Prop} (w : Walk J n G Y) {g : TG} {tt : TT} {B : (Hp → Prop) → L2.St → Hp → Prop} {vs : List Nat} {σ : L2.St} {H1 : Hp} {D : Addr} {Qd : Hp → Prop} (Pv : Nat → Hp → Prop) (h0 : Pv 0 (upd H1 D (.lst []))) (hG : ∀ i H, i ≤ n → Pv i H → G H)
    (hs : ∀ i x H H', i < n → Pv i H → Y i H x H' → g x (wipe σ vs) H' fun σ2 H2 => wipe σ2 vs = wipe σ vs ∧ tt σ2 H2 fun b H3 => if b = true then B (Pv (i + 1)) σ2 H3 else Pv (i + 1) H3) (hd : ∀ H, Pv n H → Qd H) :
    ∃ W : Nat → Nat → Hp → Prop, (∃ m, W 0 m (upd H1 D (.lst []))) ∧ ∀ i m H, W i m H →
      (J.stop i H ∧ Qd H) ∨ (J.go i H ∧ ∃ Nx : Hp → Prop, (∀ H', Nx H' → ∃ m', m' < m ∧ W (i + 1) m' H') ∧ ∀ x H', J.yld i H x H' → g x (wipe σ vs) H' fun σ2 H2 => wipe σ2 vs = wipe σ vs ∧ tt σ2 H2 fun b H3 => if b = true then B Nx σ2 H3 else Nx H3) := by
  refine ⟨fun i m H => m = n - i ∧ i ≤ n ∧ Pv i H, ⟨n, by simp, Nat.zero_le _, h0⟩, ?_⟩
  rintro i m H ⟨rfl, hi, p⟩
  have q := hG i H hi p
  by_cases lt : i < n
  · exact .inr ⟨w.goes i H lt q, Pv (i + 1), fun H' p' => ⟨n - (i + 1), by omega, rfl, lt, p'⟩, fun x H' y => hs i x H H' lt p (w.yields i H x H' lt q y)⟩
  · have e : i = n := by omega
    subst e
    exact .inl ⟨w.stops H q, hd H p⟩
/-- the inner clause -/
theorem in_it {J : It} {n : Nat} {G : Hp → Prop} {Y : Nat → Hp → V → Hp → Prop} (w : Walk J n G Y) {g : TG} {tt : TT} {te : TE} {vs : List Nat} {σ : L2.St} {H1 : Hp} {D : Addr} {Qd : Hp → Prop} (Pv : Nat → Hp → Prop) (h0 : Pv 0 H1) (hG : ∀ i H, i ≤ n → Pv i H → G H)
    (hs : ∀ i x H H', i < n → Pv i H → Y i H x H' → g x (wipe σ vs) H' fun σ2 H2 => wipe σ2 vs = wipe σ vs ∧ tt σ2 H2 fun b H3 =>
      if b = true then te σ2 H3 fun y H4 => ∃ acc, H4 D = some (.lst acc) ∧ acc.length < sizeLine ∧ Pv (i + 1) (upd H4 D (.lst (acc ++ [y]))) else Pv (i + 1) H3) (hd : ∀ H, Pv n H → Qd H) :
    ∃ W : Nat → Nat → Hp → Prop, (∃ m, W 0 m H1) ∧ ∀ i m H, W i m H →
      (J.stop i H ∧ Qd H) ∨ (J.go i H ∧ ∃ Nx : Hp → Prop, (∀ H', Nx H' → ∃ m', m' < m ∧ W (i + 1) m' H') ∧ ∀ x H', J.yld i H x H' → g x (wipe σ vs) H' fun σ2 H2 => wipe σ2 vs = wipe σ vs ∧ tt σ2 H2 fun b H3 =>
        if b = true then te σ2 H3 fun y H4 => ∃ acc, H4 D = some (.lst acc) ∧ acc.length < sizeLine ∧ Nx (upd H4 D (.lst (acc ++ [y]))) else Nx H3) := by
  refine ⟨fun i m H => m = n - i ∧ i ≤ n ∧ Pv i H, ⟨n, by simp, Nat.zero_le _, h0⟩, ?_⟩
  rintro i m H ⟨rfl, hi, p⟩
  have q := hG i H hi p
  by_cases lt : i < n
  · refine .inr ⟨w.goes i H lt q, Pv (i + 1), fun H' p' => ⟨n - (i + 1), by omega, rfl, lt, p'⟩, fun x H' y => hs i x H H' lt p (w.yields i H x H' lt q y)⟩
  · have e : i = n := by omega
    subst e
    exact .inl ⟨w.stops H q, hd H p⟩
end Et

/-! Data of ints, texts and tuples of such; what keeps them. -/
namespace Dv
open PySem L2 Wm
mutual
inductive Dt (K : PySem.W.Frag) (H : Hp) : V → PyData → Prop
  | int (i : Int) : Dt K H (.int i) (.int i)
  | str (x : Str) : Dt K H (.str x) (.str x)
  | tup {a : Addr} {xs : List V} {ds : List PyData} : SqT K H a xs → Dts K H xs ds → Dt K H (.ref a) (.tuple ds)
inductive Dts (K : PySem.W.Frag) (H : Hp) : List V → List PyData → Prop
  | nil : Dts K H [] []
  | cons {v : V} {vs : List V} {d : PyData} {ds : List PyData} : Dt K H v d → Dts K H vs ds → Dts K H (v :: vs) (d :: ds)
end
/-- tuples stand -/
def Kt (K : PySem.W.Frag) (H H' : Hp) : Prop := ∀ a xs, SqT K H a xs → SqT K H' a xs
section
variable {K : PySem.W.Frag} {H H' H2 : Hp}
theorem Kt.refl : Kt K H H := fun _ _ h => h
theorem Kt.trans (a : Kt K H H') (b : Kt K H' H2) : Kt K H H2 := fun p xs h => b p xs (a p xs h)
theorem Kt.same (s : Same H H') : Kt K H H' := fun _ _ h => sameT s h
/-- a store at what is no tuple -/
theorem Kt.set {p : Addr} {o u : HO} (h : H p = some u) (n1 : ∀ xs, u ≠ .tup xs) (n2 : ∀ ob xs, u ≠ .frz ob (.tup xs)) : Kt K H (upd H p o) := fun a xs q => by
  rcases q with (q | ⟨ob, q⟩) | q
  · exact .inl (.inl (by rw [upd_ne (fun e => by subst e; rw [h] at q; exact n1 _ (Option.some.inj q))]; exact q))
  · exact .inl (.inr ⟨ob, by rw [upd_ne (fun e => by subst e; rw [h] at q; exact n2 _ _ (Option.some.inj q))]; exact q⟩)
  · exact .inr q
theorem Kt.lst {p : Addr} {o : HO} {xs : List V} (h : H p = some (.lst xs)) : Kt K H (upd H p o) := Kt.set h (fun _ q => by cases q) (fun _ _ q => by cases q)
theorem Kt.new {p : Addr} {o : HO} (h : H p = none) : Kt K H (upd H p o) := Kt.same (same_new h)
mutual
theorem Dt.keep (k : Kt K H H') : ∀ (d : PyData) (v : V), Dt K H v d → Dt K H' v d
  | .int _, _, h => by cases h; exact .int _
  | .str _, _, h => by cases h; exact .str _
  | .tuple ds, _, h => by
    cases h with
    | tup a b => exact .tup (k _ _ a) (Dts.keep k ds _ b)
  | .none, _, h => by cases h
  | .bool _, _, h => by cases h
  | .list _, _, h => by cases h
  | .dict _, _, h => by cases h
theorem Dts.keep (k : Kt K H H') : ∀ (ds : List PyData) (vs : List V), Dts K H vs ds → Dts K H' vs ds
  | [], _, h => by cases h; exact .nil
  | d :: ds, _, h => by
    cases h with
    | cons a b => exact .cons (Dt.keep k d _ a) (Dts.keep k ds _ b)
end
mutual
theorem Dt.dp : ∀ (d : PyData) (v : V), Dt K H v d → Dp K H v d
  | .int _, _, h => by cases h; exact .int _
  | .str _, _, h => by cases h; exact .str _
  | .tuple ds, _, h => by
    cases h with
    | tup a b => exact .tup a (Dts.dp ds _ b)
  | .none, _, h => by cases h
  | .bool _, _, h => by cases h
  | .list _, _, h => by cases h
  | .dict _, _, h => by cases h
theorem Dts.dp : ∀ (ds : List PyData) (vs : List V), Dts K H vs ds → DpAll K H vs ds
  | [], _, h => by cases h; exact .nil
  | d :: ds, _, h => by
    cases h with
    | cons a b => exact .cons (Dt.dp d _ a) (Dts.dp ds _ b)
end
theorem Dt.k {d : PyData} {v : V} (h : Dt K H v d) (k : Kt K H H') : Dt K H' v d := Dt.keep k _ _ h
theorem Dts.k {ds : List PyData} {vs : List V} (h : Dts K H vs ds) (k : Kt K H H') : Dts K H' vs ds := Dts.keep k _ _ h
theorem Dt.toDp {d : PyData} {v : V} (h : Dt K H v d) : Dp K H v d := Dt.dp _ _ h
theorem Dts.toDp {ds : List PyData} {vs : List V} (h : Dts K H vs ds) : DpAll K H vs ds := Dts.dp _ _ h
theorem Dt.inv {ds : List PyData} {v : V} (h : Dt K H v (.tuple ds)) : ∃ p xs, v = .ref p ∧ SqT K H p xs ∧ Dts K H xs ds := by
  cases h with
  | tup a b => exact ⟨_, _, rfl, a, b⟩
theorem Dt.str_inv {x : Str} {v : V} (h : Dt K H v (.str x)) : v = .str x := by cases h; rfl
theorem Dt.int_inv {i : Int} {v : V} (h : Dt K H v (.int i)) : v = .int i := by cases h; rfl
theorem Dts.len {ds : List PyData} {vs : List V} (h : Dts K H vs ds) : vs.length = ds.length := by
  induction ds generalizing vs with
  | nil => cases h; rfl
  | cons d ds ih =>
    cases h with
    | cons a b => rw [List.length_cons, List.length_cons, ih b]
theorem Dts.at {i : Nat} {ds : List PyData} {vs : List V} {v : V} (h : Dts K H vs ds) (g : vs[i]? = some v) : ∃ d, ds[i]? = some d ∧ Dt K H v d := by
  induction ds generalizing vs i with
  | nil =>
    cases h
    simp at g
  | cons d ds ih =>
    cases h with
    | cons a b =>
      cases i with
      | zero =>
        simp at g
        subst g
        exact ⟨d, rfl, a⟩
      | succ i => exact ih b (by simpa using g)
theorem Dts.get {i : Nat} {ds : List PyData} {vs : List V} {d : PyData} (h : Dts K H vs ds) (g : ds[i]? = some d) : ∃ v, vs[i]? = some v ∧ Dt K H v d := by
  have li := (List.getElem?_eq_some_iff.mp g).1
  obtain ⟨v, e⟩ : ∃ v, vs[i]? = some v := ⟨_, List.getElem?_eq_getElem (by rw [h.len]; exact li)⟩
  obtain ⟨d2, e2, a⟩ := h.at e
  rw [g] at e2
  cases e2
  exact ⟨v, e, a⟩
theorem Dts.app {ds es : List PyData} {vs ws : List V} (h : Dts K H vs ds) (g : Dts K H ws es) : Dts K H (vs ++ ws) (ds ++ es) := by
  induction ds generalizing vs with
  | nil => cases h; exact g
  | cons d ds ih =>
    cases h with
    | cons a b => exact .cons a (ih b)
theorem Dts.snoc {ds : List PyData} {d : PyData} {vs : List V} {v : V} (h : Dts K H vs ds) (g : Dt K H v d) : Dts K H (vs ++ [v]) (ds ++ [d]) := h.app (.cons g .nil)
theorem Dts.take {ds : List PyData} {vs : List V} (h : Dts K H vs ds) : ∀ n, Dts K H (vs.take n) (ds.take n) := by
  induction ds generalizing vs with
  | nil => cases h; intro n; simp; exact .nil
  | cons d ds ih =>
    cases h with
    | cons a b =>
      intro n
      cases n with
      | zero => exact .nil
      | succ n => exact .cons a (ih b n)
theorem Dts.drop {ds : List PyData} {vs : List V} (h : Dts K H vs ds) : ∀ n, Dts K H (vs.drop n) (ds.drop n) := by
  induction ds generalizing vs with
  | nil => cases h; intro n; simp; exact .nil
  | cons d ds ih =>
    cases h with
    | cons a b =>
      intro n
      cases n with
      | zero => exact .cons a b
      | succ n => exact ih b n
theorem dts_str : ∀ ss : List Str, Dts K H (ss.map V.str) (ss.map PyData.str)
  | [] => .nil
  | s :: ss => .cons (.str s) (dts_str ss)
theorem dts_str_inv {ss : List Str} {vs : List V} (h : Dts K H vs (ss.map PyData.str)) : vs = ss.map V.str := by
  induction ss generalizing vs with
  | nil => cases h; rfl
  | cons s ss ih =>
    cases h with
    | cons a b => rw [a.str_inv, ih b]; rfl
theorem dts_int : ∀ ns : List Int, Dts K H (ns.map V.int) (ns.map PyData.int)
  | [] => .nil
  | s :: ss => .cons (.int s) (dts_int ss)
theorem dts_int_inv {ns : List Int} {vs : List V} (h : Dts K H vs (ns.map PyData.int)) : vs = ns.map V.int := by
  induction ns generalizing vs with
  | nil => cases h; rfl
  | cons s ss ih =>
    cases h with
    | cons a b => rw [a.int_inv, ih b]; rfl
theorem dt_tup {p : Addr} {xs : List V} {ds : List PyData} (h : H p = some (.tup xs)) (g : Dts K H xs ds) : Dt K H (.ref p) (.tuple ds) := .tup (SqT.of h) g
end
/-- data that == may be asked of: texts in the line, not deep -/
def Fine (n : Nat) (d : PyData) : Prop := d.canLay0 = true ∧ d.depth ≤ n
theorem fine_int {n : Nat} (i : Int) : Fine n (.int i) := ⟨by simp [PyData.canLay0], by simp [PyData.depth]⟩
theorem fine_tup {n : Nat} {ds : List PyData} (h : ∀ d ∈ ds, Fine n d) : Fine (n + 1) (.tuple ds) := by
  have q : PyData.canLayAll0 ds = true ∧ PyData.depthAll ds ≤ n := by
    induction ds with
    | nil => simp [PyData.canLayAll0, PyData.depthAll]
    | cons d ds ih =>
      have h1 := h d (by simp)
      have h2 := ih fun y m => h y (List.mem_cons_of_mem _ m)
      simp only [PyData.canLayAll0, PyData.depthAll, h1.1, h2.1, Bool.and_self, true_and]
      have := h1.2
      have := h2.2
      omega
  exact ⟨by simp only [PyData.canLay0]; exact q.1, by simp only [PyData.depth]; have := q.2; omega⟩
theorem fine_str {n : Nat} {x : Str} (h : x.cps.all (· < 0x110000) = true) : Fine n (.str x) := ⟨by simp only [PyData.canLay0]; exact h, by simp [PyData.depth]⟩
theorem fine_num {n : Nat} {ds : List Nat} (h : ∀ d ∈ ds, d ≤ 9) : Fine n (.str (numS ds)) := by
  refine fine_str ?_
  rw [← Array.all_toList, List.all_eq_true]
  intro c m
  obtain ⟨d, md, rfl⟩ := List.mem_map.mp (show c ∈ codes ds from m)
  have := h d md
  exact decide_eq_true (by omega)
theorem Fine.shaped {n : Nat} {d : PyData} (h : Fine n d) (l : n ≤ 64) : SeqAt.shaped d = true := by
  have e : decide (d.depth ≤ 64) = true := decide_eq_true (Nat.le_trans h.2 l)
  show (d.canLay0 && _) = true
  rw [e, Bool.and_true]
  exact h.1
theorem Fine.refl {n : Nat} {d : PyData} (h : Fine n d) : PyData.eqv d d = true := SeqAt.eqv_refl d h.1
theorem Fine.mono {n m : Nat} {d : PyData} (h : Fine n d) (l : n ≤ m) : Fine m d := ⟨h.1, Nat.le_trans h.2 l⟩
end Dv

/-! A list or a tuple, told by a letter; loops over it that may write elsewhere. -/
namespace Kd
open PySem PySem.Spec PyProof.Rows L2
/-- the list or (t) the tuple at a -/
def Is (K : PySem.W.Frag) (t : Bool) (H : Hp) (a : Addr) (xs : List V) : Prop := if t = true then SqT K H a xs else SqL K H a xs
theorem Is.keep {K : PySem.W.Frag} {t : Bool} {H H' : Hp} {a : Addr} {xs : List V} (s : Same H H') (h : Is K t H a xs) : Is K t H' a xs := by
  cases t
  · exact Hf.keepL s h
  · exact Hf.keepT s h
theorem Is.sq {K : PySem.W.Frag} {t : Bool} {H : Hp} {a : Addr} {xs : List V} (h : Is K t H a xs) : SqL K H a xs ∨ SqT K H a xs := by
  cases t
  · exact .inl h
  · exact .inr h
theorem Is.tup {K : PySem.W.Frag} {H : Hp} {a : Addr} {xs : List V} (h : SqT K H a xs) : Is K true H a xs := h
theorem Is.lst {K : PySem.W.Frag} {H : Hp} {a : Addr} {xs : List V} (h : SqL K H a xs) : Is K false H a xs := h
section
variable {X : Cx}
def iSeq (K : PySem.W.Frag) (tl : TE) : TI := fun σ H R => tl σ H fun x H1 => ∃ a xs t, x = .ref a ∧ Is K t H1 a xs ∧
  ∀ J G, Walk J xs.length G (YAt xs) → (∀ H', Is K t H' a xs → G H') → R J H1
theorem pi_seq {tg l : Expr} {tl : TE} (hl : PE X l tl) : PI X tg l (iSeq X.K tl) := by
  refine ⟨fun pins s σ H R I h => ?_⟩
  refine thn (hl.run pins s σ H _ I h) fun v s1 ⟨x, H1, I1, r1, q1⟩ => ?_
  obtain ⟨a, xs, t, e, hq, q⟩ := q1
  subst e
  cases r1
  cases t with
  | false =>
    have hq : SqL X.K H1 a xs := hq
    have q := q _ _ walk_list fun H' s => s
    obtain ⟨its, rv, p, hz⟩ := I1.list hq
    refine wpAny_pyIter_list p.isList ?_
    refine ⟨s1.heap.objs.size, [s1.heap.objs.size], _, _, H1, rfl, I1.kept (t' := s1.toks) fun b o e => Heap.get?_push_of_some _ e, turn_list a _, ⟨_, Heap.get?_push_size _ rfl, rfl, rfl⟩, fun b hb => ?_, q⟩
    have e : b = s1.heap.objs.size := by simpa using hb
    subst e
    exact I1.fpOk (Nat.le_refl _) (I1.hok.fresh (Nat.le_refl _))
  | true =>
    have hq : SqT X.K H1 a xs := hq
    have q := q _ _ walk_tup fun H' s => s
    obtain ⟨its, rv, p, hz⟩ := I1.tuple hq
    refine wpAny_pyIter_tuple (show s1.heap.IsTuple a its.toArray from p) ?_
    refine ⟨s1.heap.objs.size, [s1.heap.objs.size], _, _, H1, rfl, I1.kept (t' := s1.toks) fun b o e => Heap.get?_push_of_some _ e, turn_tuple a _, ⟨_, Heap.get?_push_size _ rfl, rfl, rfl⟩, fun b hb => ?_, q⟩
    have e : b = s1.heap.objs.size := by simpa using hb
    subst e
    exact I1.fpOk (Nat.le_refl _) (I1.hok.fresh (Nat.le_refl _))
end
end Kd

/-! Comprehensions whose items are told one by one. -/
namespace Lm
open PySem L2 Wm Dv
theorem list_is {α : Type} {ys zs : List α} (l : ys.length = zs.length) (h : ∀ (i : Nat) y, ys[i]? = some y → zs[i]? = some y) : ys = zs := by
  refine List.ext_getElem? fun i => ?_
  by_cases q : i < ys.length
  · rw [h i _ (List.getElem?_eq_getElem q), List.getElem?_eq_getElem q]
  · rw [List.getElem?_eq_none (by omega), List.getElem?_eq_none (by omega)]
theorem lc_map {K : PySem.W.Frag} {J : It} {n : Nat} {G : Hp → Prop} {xs : List V} (w : Walk J n G (YAt xs)) {g : TG} {te : TE} {vs : List Nat} {σ : L2.St} {H1 : Hp} {D : Addr} {Qd : Hp → Prop} (R : Nat → V → Hp → Prop)
    (mono : ∀ i y H H', R i y H → Kt K H H' → R i y H') (hD : H1 D = none) (hn : n ≤ 100000) (hG : ∀ H', Same H1 H' → G H')
    (hs : ∀ i x H', i < n → xs[i]? = some x → Same H1 H' → ∀ (Q : V → Hp → Prop) (Z : Hp → Prop), (∀ y H4, Same H' H4 → R i y H4 → Q y H4) → g x (wipe σ vs) H' fun σ2 H2 => wipe σ2 vs = wipe σ vs ∧ tYes σ2 H2 fun b H3 => if b = true then te σ2 H3 Q else Z H3)
    (hd : ∀ H ys, Same H1 H → H D = some (.lst ys) → ys.length = n → (∀ (i : Nat) y, ys[i]? = some y → R i y H) → Qd H) :
    ∃ W : Nat → Nat → Hp → Prop, (∃ m, W 0 m (upd H1 D (.lst []))) ∧ ∀ i m H, W i m H →
      (J.stop i H ∧ Qd H) ∨ (J.go i H ∧ ∃ Nx : Hp → Prop, (∀ H', Nx H' → ∃ m', m' < m ∧ W (i + 1) m' H') ∧ ∀ x H', J.yld i H x H' → g x (wipe σ vs) H' fun σ2 H2 => wipe σ2 vs = wipe σ vs ∧ tYes σ2 H2 fun b H3 =>
        if b = true then te σ2 H3 fun y H4 => ∃ acc, H4 D = some (.lst acc) ∧ acc.length < sizeLine ∧ Nx (upd H4 D (.lst (acc ++ [y]))) else Nx H3) := by
  refine lc_it (tt := tYes) w (fun i H => Same H1 H ∧ ∃ ys : List V, ys.length = i ∧ H D = some (.lst ys) ∧ ∀ j y, ys[j]? = some y → R j y H) ⟨same_new hD, [], rfl, upd_same, fun (j : Nat) (y : V) e => by simp at e⟩ (fun i H _ h => hG H h.1) (fun i x H H' hi hP hY => ?_) (fun H hP => ?_)
  · obtain ⟨sm, ys, el, hy, hR⟩ := hP
    obtain ⟨rfl, hx⟩ := hY
    refine hs i x H' hi hx sm _ _ (fun y H4 s4 r4 => ?_)
    · refine ⟨ys, s4 _ _ hy, by rw [el]; exact Nat.lt_of_lt_of_le (show i < 100000 by omega) (by decide), same_mut (sm.trans s4) hD, ys ++ [y], by rw [List.length_append, el]; rfl, upd_same, fun j z hz => ?_⟩
      have k5 : Kt K H4 (upd H4 D (.lst (ys ++ [y]))) := Kt.lst (s4 _ _ hy)
      by_cases lj : j < ys.length
      · rw [List.getElem?_append_left lj] at hz
        exact mono _ _ _ _ (hR j z hz) ((Kt.same s4).trans k5)
      · rw [List.getElem?_append_right (by omega)] at hz
        have e0 : j - ys.length = 0 := by
          by_cases q : j - ys.length = 0
          · exact q
          · rw [List.getElem?_eq_none (by rw [List.length_singleton]; omega)] at hz
            cases hz
        rw [e0] at hz
        have ez : y = z := by simpa using hz
        have ej : j = i := by omega
        subst ez ej
        exact mono _ _ _ _ r4 k5
  · obtain ⟨sm, ys, el, hy, hR⟩ := hP
    exact hd H ys sm hy el hR
end Lm
namespace Kx
open PySem L2
def rLen (K : PySem.W.Frag) : List V → Hp → VK → Prop := fun xs H Q => ∃ p ys, xs = [.ref p] ∧ (SqL K H p ys ∨ SqT K H p ys) ∧ Q (.int (ys.length : Nat)) H
def rTup (K : PySem.W.Frag) : List V → Hp → VK → Prop := fun xs H Q => ∃ a ys, xs = [.ref a] ∧ SqT K H a ys ∧ Q (.ref a) H
def rTupOf (K : PySem.W.Frag) : List V → Hp → VK → Prop := fun xs H Q => ∃ p ys, xs = [.ref p] ∧ ((SqL K H p ys ∧ ∀ l, H l = none → Q (.ref l) (upd H l (.tup ys))) ∨ (SqT K H p ys ∧ Q (.ref p) H))
end Kx

/-! An exception made whose record has its six fields; raise X(..) from e in the suite that handles e. -/
namespace L2
open PySem PySem.Spec PyProof.Rows HotX
def PMkS (X : Cx) (e : Expr) (t : St → Hp → XK → Prop) : Prop :=
  ∀ (pins : List (Addr × Obj)) (s : Shared) (σ : St) (H : Hp) (Q : XK), Inv X pins σ H s → t σ H Q → wpAny (model X.prog X.w) X.A (eval e X.env) (fun u s' => MkP X pins σ Q u s' ∧ L2H.Six u s') X.xe s
theorem PMkS.pmk {X : Cx} {e : Expr} {t : St → Hp → XK → Prop} (h : PMkS X e t) : PMk X e t := fun pins s σ H Q I q => thn (h pins s σ H Q I q) fun _ _ x => x.1
end L2

/-! try: .. except A as n: .. except B as m: .. (any number of clauses, each with its name). -/
namespace Ta
open PySem PySem.Spec PyProof.Rows L2
/-- one clause: the class that it names, the slot of its name, what its suite does -/
structure Hd where
  c : Value
  i : Nat
  ts : Addr → Value → Option Addr → TS
/-- behind a suite its name is gone -/
def Off (D : Ends) (i : Nat) : Ends where
  nx σ H := D.nx (σ.set i none) H
  rt := D.rt
  bk σ H := D.bk (σ.set i none) H
  ct σ H := D.ct (σ.set i none) H
/-- what the clauses ask of an exception that comes out of the body -/
def wish (K : PySem.W.Frag) (W : WX) (D : Ends) : List Hd → WX
  | [] => W
  | h :: r => fun cls d σ H => ∃ y, PySem.W.exmOne K cls h.c = some y ∧
      (y = true → ∀ a, H a = none → h.ts a cls d (Off D h.i) (σ.set h.i (some (.ref a))) H) ∧ (y = false → wish K W D r cls d σ H)
inductive Hds (X : Cx) : List ExceptHandler → List Hd → Prop
  | nil : Hds X [] []
  | cons {h : Hd} {x n : Str} {b₀ : Stmt} {rows : List Stmt} {p q : Pos} {hs : List ExceptHandler} {l : List Hd}
      (hi : X.N[h.i]? = some n) (hl : X.env.kindOf n = some .local) (hc : Names X x h.c)
      (hr : ∀ (a : Addr) (oe : Obj) (cls : Value) (d : Option Addr) (pn : List (Addr × Obj)), Zc cls d oe → (∃ vs, oe.data = .fields vs) →
        PSs (X.suite a ((a, oe) :: pn)) (b₀ :: rows) (h.ts a cls d))
      (t : Hds X hs l) : Hds X (.ExceptHandler (some (.Name x p)) (some n) (b₀ :: rows) q :: hs) (h :: l)
section
variable {X : Cx} {body : List Stmt} {hs : List ExceptHandler} {l : List Hd} {pos : Pos} {tb : WX → TS} {W : WX}
/-- how the body's own end is the whole one's -/
theorem calm_end {pins : List (Addr × Obj)} {D : Ends} {xe : Value → Shared → Prop} (ok : X.Ok) {f : Flow} {s : Shared} (h : SP (X.tr (X.pn ++ pins) xe) [] D f s) : SP X pins D f s := by
  cases f with
  | ret u =>
    obtain ⟨v, σ, H, J, r, q⟩ := h
    exact ⟨v, σ, H, J.ofTry ok, r, q⟩
  | next => obtain ⟨σ, H, J, q⟩ := h; exact ⟨σ, H, J.ofTry ok, q⟩
  | brk => obtain ⟨σ, H, J, q⟩ := h; exact ⟨σ, H, J.ofTry ok, q⟩
  | cont => obtain ⟨σ, H, J, q⟩ := h; exact ⟨σ, H, J.ofTry ok, q⟩
/-- an exception has landed at a: the clauses are asked one behind the other -/
theorem asked {pins : List (Addr × Obj)} {D : Ends} {a : Addr} {B h3 : Heap} {sI s' : Shared} {σ : L2.St} {H : Hp} {cls : Value} {d : Option Addr} (stk : X.stack = X.env :: X.outer) (fr : X.env.frame = some X.env.locals) (nd : X.N.Nodup) (tk : Takes X W)
    (J : Inv X pins σ H sI) (nb : ∀ b o, sI.heap.get? b = some o → b ∉ frs X.stack → B.get? b = some o) (up : sI.heap.UpToSlots s'.heap) (up3 : s'.heap.UpToSlots h3) (na : H a = none) (os : s'.os = sI.os) (ag : AllBare s'.gens)
    (fl : HandSPX.FlyingZ B (X.env :: X.outer) a (Zc cls d) h3) : ∀ {hs : List ExceptHandler} {l : List Hd}, Hds X hs l → wish X.K W D l cls d σ H →
    wpAny (model X.prog X.w) X.A (handleBy (.ref a) X.env hs) (SP X pins D) X.xe { s' with heap := h3 } := by
  have free : ∀ {g : Heap} {o : Obj} {vs : Array Value}, HandSPX.FlyingZ B (X.env :: X.outer) a (Zc cls d) g → g.get? a = some o → o.data = .fields vs → a ≠ X.env.locals ∧ a ∉ X.fs := by
    intro g o vs fg eo ed
    have out : a ∉ frs (X.env :: X.outer) := by
      intro m
      obtain ⟨_, o2, e2, no⟩ := fg.2.2.1.mem m
      cases eo.symm.trans e2
      exact no _ ed
    constructor
    · intro z
      exact out (List.mem_filterMap.mpr ⟨X.env, by simp, by rw [fr, z]⟩)
    · intro m
      obtain ⟨e, me, q⟩ := List.mem_filterMap.mp m
      exact out (List.mem_filterMap.mpr ⟨e, by simp [me], q⟩)
  intro hs l hk
  induction hk with
  | nil =>
    intro hW
    obtain ⟨_, _, _, oe, vs, _, _, _, eo, _, ed, e1, _⟩ := id fl
    refine wpAny_handleBy_nil ?_
    have out : wpAny (model X.prog X.w) X.A (setFlight (.ref a) X.env.frame) (fun _ t => wpAny (model X.prog X.w) X.A (throw (.ref a) : Sem Flow) (SP X pins D) X.xe t) X.xe { s' with heap := h3 } := by
      rw [fr]
      refine HandSPX.setFlight_upZ fl fun g hg ug => ?_
      have sky : Sky B X.stack a (Zc cls d) X.env.locals g := by
        rw [stk]
        exact .inr (.inr hg)
      exact wpAny_throw (tk _ _ ⟨a, B, sI, pins, σ, H, cls, d, rfl, J, nb, (up.trans up3).trans ug, sky, na, os, ag, hW⟩)
    unfold PySem.passOn
    refine wpAny_bind (wpAny_field eo ed e1 ?_)
    rw [if_neg (by simp)]
    first
      | exact wpAny_bind out
      | exact wpAny_bind (wpAny_pure (wpAny_bind out))
  | @cons h x n b₀ rows p q hs l hi hl hc hr t ih =>
    rintro ⟨y, ey, yes, no⟩
    obtain ⟨oe, vs, eo, ez, ed⟩ := fl.there
    obtain ⟨n1, n2⟩ := free fl eo ed
    have J3 := J.landed nb fl.1 (s' := { s' with heap := h3 }) (up.trans up3) os ag
    have S3 := J3.suite eo ed na n1 n2
    have kind : PySem.W.Looks (model X.prog X.w) h3 (typeOf (.ref a)) cls := by
      intro A Q E z k q
      refine wpAny_typeOf_ref (k _ _ eo) ?_
      rw [ez.1]
      exact q
    have one := PySem.W.exm_one (M := model X.prog X.w) J3.kIn kind ey
    refine wpAny_handleBy_cons (codeAny_handlers_test ?_) (by intro z; cases z)
    have name : ∀ {Q E : Value → Shared → Prop}, Q h.c { s' with heap := h3 } → wpAny (model X.prog X.w) (X.A.mark (some (.ref a))) (eval (.Name x p) X.env) Q E { s' with heap := h3 } := by
      intro Q E qq
      rcases hc with ⟨g1, g2, g3 | ⟨g3, g4, g5⟩⟩
      · exact ld_glob (X := X.suite a ((a, oe) :: (X.pn ++ pins))) S3 g1 g3 qq g2
      · exact ld_blt (X := X.suite a ((a, oe) :: (X.pn ++ pins))) S3 g1 g3 g4 qq g5 g2
    refine name (one.here ?_)
    cases y with
    | false => exact ih (no rfl)
    | true =>
      refine codeAny_handlers_suite_as ?_
      refine HandSPX.lands_againZ fl fun g fg ug => ?_
      obtain ⟨oe2, vs2, eo2, ez2, ed2⟩ := fg.there
      obtain ⟨m1, m2⟩ := free fg eo2 ed2
      have J4 := J.landed nb fg.1 (s' := { s' with heap := g }) ((up.trans up3).trans ug) os ag
      refine store_ok (X := X.suite a ((a, oe2) :: (X.pn ++ pins))) (v := .ref a) (J4.suite eo2 ed2 na m1 m2) nd hi (.inl hl) rfl (fun s5 S5 => ?_) (.inr hl)
      have body := (hr a oe2 cls d (X.pn ++ pins) ez2 ⟨_, ed2⟩).run [] s5 _ H _ S5 (yes rfl a na)
      refine wpAny_mono body (fun f s6 end6 => ?_) fun _ _ z => z.elim
      have ok := J.ok
      cases f with
      | ret u =>
        obtain ⟨v6, σ6, H6, S6, r6, q6⟩ := end6
        exact gone_ok (S6.unsuite ok) nd hi hl fun s7 J7 => ⟨_, _, _, J7, r6, q6⟩
      | next =>
        obtain ⟨σ6, H6, S6, q6⟩ := end6
        exact gone_ok (S6.unsuite ok) nd hi hl fun s7 J7 => ⟨_, _, J7, q6⟩
      | brk =>
        obtain ⟨σ6, H6, S6, q6⟩ := end6
        exact gone_ok (S6.unsuite ok) nd hi hl fun s7 J7 => ⟨_, _, J7, q6⟩
      | cont =>
        obtain ⟨σ6, H6, S6, q6⟩ := end6
        exact gone_ok (S6.unsuite ok) nd hi hl fun s7 J7 => ⟨_, _, J7, q6⟩
theorem ps_try_ass {h₀ : ExceptHandler} {h1 : Hd} (stk : X.stack = X.env :: X.outer) (fr : X.env.frame = some X.env.locals) (nd : X.N.Nodup) (tk : Takes X W)
    (hb : ∀ (U : WX) (pn : List (Addr × Obj)) (xe : Value → Shared → Prop), Takes (X.tr pn xe) U → PassesOwn (model X.prog X.w) X.A X.env xe → PSs (X.tr pn xe) body (tb U))
    (hh : Hds X (h₀ :: hs) (h1 :: l)) : PS X (.Try body (h₀ :: hs) [] [] pos) (fun D σ H => tb (wish X.K W D (h1 :: l)) D σ H) := by
  constructor
  intro pins s σ H D I go
  have ok := I.ok
  refine wpAny_Try_except ?_
  have run := (hb (wish X.K W D (h1 :: l)) (X.pn ++ pins) (fun e t1 => wpAny (model X.prog X.w) X.A (noteFrame e X.env) (fun _ t2 =>
    wpAny (model X.prog X.w) X.A (setFlight e none) (fun _ t3 => wpAny (model X.prog X.w) X.A (handleBy e X.env (h₀ :: hs)) (SP X pins D) X.xe t3) X.xe t2) X.xe t1) ?_ PassesOwn.looking).run [] s σ H D (I.toTry _) go
  · refine wpAny_mono run (fun f s1 e1 => ?_) fun _ _ z => z
    have e2 := calm_end ok e1
    cases f with
    | next => exact wpAny_execs_nil e2
    | ret u => exact e2
    | brk => exact e2
    | cont => exact e2
  · intro u s' xx
    obtain ⟨a, B, sI, pins2, σ', H', cls, d, rfl, J', nb, up, sky, na, os, ag, hw⟩ := xx
    have sky2 : Sky B (X.env :: X.outer) a (Zc cls d) X.env.locals s'.heap := by
      rw [← stk]
      exact sky
    show wpAny (model X.prog X.w) X.A (noteFrame (.ref a) X.env) _ _ _
    exact Sky.land Zc.steady (by rw [ok.frames, stk]) fr sky2 fun h3 fl up3 => asked stk fr nd tk (J'.ofTry ok) nb up up3 na os ag fl hh hw
end
end Ta

/-! raise X(..) from e, in the suite that handles e under its own name; try: .. except C as n: suite that raises. -/
namespace Rf
open PySem PySem.Spec PyProof.Rows L2 HotX
/-- the new record says: because of x1 -/
def caused (h : Heap) (a x1 : Addr) : Heap := (h.update a (Obj.mapFields (·.setIfInBounds 3 (.ref x1)))).update a (Obj.mapFields (·.setIfInBounds 4 (.bool true)))
theorem caused_self {h : Heap} {a x1 : Addr} {o : Obj} {vs : Array Value} (e : h.get? a = some o) (d : o.data = .fields vs) :
    (caused h a x1).get? a = some ((o.mapFields (·.setIfInBounds 3 (.ref x1))).mapFields (·.setIfInBounds 4 (.bool true))) ∧ ((o.mapFields (·.setIfInBounds 3 (.ref x1))).mapFields (·.setIfInBounds 4 (.bool true))).data = .fields ((vs.setIfInBounds 3 (.ref x1)).setIfInBounds 4 (.bool true)) := by
  have d1 := Obj.data_mapFields d (·.setIfInBounds 3 (.ref x1))
  have e1 := Heap.get?_update_self (Obj.mapFields (·.setIfInBounds 3 (.ref x1))) e (Obj.isFreed_of_fields d1)
  have d2 := Obj.data_mapFields d1 (·.setIfInBounds 4 (.bool true))
  exact ⟨Heap.get?_update_self (Obj.mapFields (·.setIfInBounds 4 (.bool true))) e1 (Obj.isFreed_of_fields d2), d2⟩
theorem caused_off {h : Heap} {a b x1 : Addr} (n : a ≠ b) : (caused h a x1).get? b = h.get? b := (Heap.get?_update_other _ _ n).trans (Heap.get?_update_other _ _ n)
/-- what stands ready: the new exception at a, the handled one at x1 -/
structure Ready (M : Model) (A : Around) (x1 : Addr) (c : Sem Value) (E : Value → Shared → Prop) (v : Value) (t : Shared) : Prop where
  ex : ∃ (a : Addr) (o : Obj) (vs : Array Value) (cls : Value) (o1 : Obj) (c1 : Value), v = .ref a ∧ t.heap.get? a = some o ∧ o.cls = cls ∧ o.data = .fields vs ∧ vs[1]? = some .none ∧ 4 < vs.size ∧ x1 ≠ a ∧ HotAt A x1 t.heap ∧ t.heap.get? x1 = some o1 ∧ o1.cls = c1 ∧
    PySem.W.Looks M t.heap (isSubtype cls (.type "BaseException")) true ∧ PySem.W.Looks M t.heap (isSubtype c1 (.type "BaseException")) true ∧ PySem.W.Looks M (caused t.heap a x1) (typeOf cls) (.type "type") ∧
    E (.ref a) { t with heap := (caused t.heap a x1).update a (Obj.mapFields (·.setIfInBounds 2 (.ref x1))) }
  cause : ∀ Q : Value → Shared → Prop, Q (.ref x1) t → wpAny M A c Q E t
theorem no_type {M : Model} {A : Around} {E : Value → Shared → Prop} {a : Addr} {o : Obj} {vs : Array Value} {t : Shared} {Q : Bool → Shared → Prop} (e : t.heap.get? a = some o) (d : o.data = .fields vs) (q : Q false t) : wpAny M A (isType (.ref a)) Q E t := by
  simp only [isType, loadHead]
  refine wpAny_bind (wpAny_loadPart e ?_)
  rw [d]
  exact wpAny_pure q
theorem raise_from {prog : Program} {w : World} {A : Around} {E : Value → Shared → Prop} {env : Env} {s : Shared} {x c : Sem Value} {Q : Flow → Shared → Prop} {x1 : Addr} (h : wpAny (model prog w) A x (Ready (model prog w) A x1 c E) E s) :
    wpAny (model prog w) A (raiseStmt env (some x) (some c)) Q E s := by
  unfold raiseStmt
  dsimp only
  refine wpAny_bind (wpAny_mono h (fun v t r => ?_) fun _ _ z => z)
  obtain ⟨⟨a, o, vs, cls, o1, c1, rfl, ea, ec, ed, e1, big, ne, hot, ex1, ec1, L, L1, LT, go⟩, cause⟩ := r
  obtain ⟨hh, o1', vs1, f1, fd, fn⟩ := id hot
  rw [ex1] at f1
  cases f1
  have kind : PySem.W.Looks (model prog w) t.heap (isInstance (.ref a) (.type "BaseException")) true :=
    PySem.W.Looks.andThen (fun B Q E z k q => wpAny_typeOf_ref (k _ _ ea) (by rw [ec]; exact q)) L
  have kind1 : PySem.W.Looks (model prog w) t.heap (isInstance (.ref x1) (.type "BaseException")) true :=
    PySem.W.Looks.andThen (fun B Q E z k q => wpAny_typeOf_ref (k _ _ ex1) (by rw [ec1]; exact q)) L1
  obtain ⟨eb, db⟩ := caused_self (x1 := x1) ea ed
  have d3 := Obj.data_mapFields ed (·.setIfInBounds 3 (.ref x1))
  have e3 := Heap.get?_update_self (Obj.mapFields (·.setIfInBounds 3 (.ref x1))) ea (Obj.isFreed_of_fields d3)
  have z3 : 3 < vs.size := by omega
  have z4 : 4 < (vs.setIfInBounds 3 (Value.ref x1)).size := by rw [set_size]; exact big
  have z2 : 2 < ((vs.setIfInBounds 3 (Value.ref x1)).setIfInBounds 4 (Value.bool true)).size := by rw [set_size, set_size]; omega
  have tb : ((vs.setIfInBounds 3 (Value.ref x1)).setIfInBounds 4 (Value.bool true))[1]? = some Value.none := set_other (by decide) (set_other (by decide) e1)
  have cb : ((o.mapFields (·.setIfInBounds 3 (.ref x1))).mapFields (·.setIfInBounds 4 (.bool true))).cls = cls := by rw [Obj.cls_mapFields, Obj.cls_mapFields, ec]
  have hotb : HotAt A x1 (caused t.heap a x1) := ⟨hh, o1, vs1, (caused_off (Ne.symm ne)).trans ex1, fd, fn⟩
  have own : PySem.W.Looks (model prog w) (caused t.heap a x1) (typeOf (.ref a)) cls := fun B Q E z k q => wpAny_typeOf_ref (k _ _ eb) (by rw [cb]; exact q)
  have last : wpAny (model prog w) A (do
      let q ← isType (.ref a)
      if q = true then do
        let e ← holding [.ref a] (raisedFor (.ref a) (.ref a)); setFlight e none; raiseNew e
      else do
        let e ← raisedInstance (.ref a); setFlight e none; raiseNew e : Sem Flow) Q E { t with heap := caused t.heap a x1 } := by
    refine wpAny_bind (no_type eb db ?_)
    simp only [Bool.false_eq_true, if_false]
    unfold raisedInstance
    refine wpAny_bind (wpAny_bind (own.here (wpAny_bind (LT.here ?_))))
    rw [if_pos (beq_self_eq_true _)]
    refine wpAny_pure ?_
    unfold setFlight
    refine wpAny_bind (wpAny_bind (wpAny_field eb db tb ?_))
    rw [if_neg (by decide)]
    exact wpAny_pure (raiseNew_hot hotb ne eb db z2 go)
  refine wpAny_bind (wpAny_holding (cause _ (wpAny_bind (wpAny_pure ?_))))
  dsimp only
  refine wpAny_bind (wpAny_holding ?_)
  unfold excFromValue isExcClass
  refine wpAny_bind (wpAny_bind (no_type ea ed ?_))
  simp only [Bool.false_eq_true, if_false]
  refine wpAny_pure ?_
  simp only [Bool.false_eq_true, if_false]
  refine wpAny_bind (kind.here ?_)
  simp only [if_true]
  refine wpAny_pure ?_
  rw [if_neg (show ¬ ((Value.ref x1 == Value.none) = true) by simp)]
  refine wpAny_bind (wpAny_holding (wpAny_bind (wpAny_bind (no_type ex1 fd ?_))))
  simp only [Bool.false_eq_true, if_false]
  refine wpAny_pure ?_
  simp only [Bool.false_eq_true, if_false]
  refine wpAny_bind (kind1.here ?_)
  simp only [if_true]
  refine wpAny_pure ?_
  refine wpAny_bind (wpAny_setField ea ed z3 (wpAny_bind (wpAny_setField e3 d3 z4 ?_)))
  exact last
section
variable {X : Cx}
/-- the handled exception, named by slot i -/
theorem ps_raise_from {W : WX} {e : Expr} {t : L2.St → Hp → XK → Prop} {i : Nat} {n : Str} {np pos : Pos} {x1 : Addr} {o1 : Obj} {vs1 : Array Value} (hh : X.A.handled = some (.ref x1)) (hp : (x1, o1) ∈ X.pn) (d1 : o1.data = .fields vs1) (n1 : vs1[2]? = some .none)
    (tk : L2.Takes X W) (he : PMkS X e t) (hN : X.N[i]? = some n) (hv : X.env.kindOf n = some .local) (hd : (n == ("__debug__" : Str)) = false := by decide) :
    PS X (.Raise (some e) (some (.Name n np)) pos) (fun _ σ H => PySem.W.subIn X.K o1.cls (.type "BaseException") = some true ∧ σ[i]? = some (some (.ref x1)) ∧ t σ H fun cls d H' => W cls d σ H') := by
  refine ⟨fun pins s σ H D I h => ?_⟩
  obtain ⟨sub, hσ, h⟩ := h
  show wpAny _ _ (do standAt pos; raiseStmt X.env (some (do let v ← eval e X.env; standAt pos; pure v)) (some (do let v ← eval (.Name n np) X.env; standAt pos; pure v))) _ _ _
  refine wpAny_bind (wpAny_standAt (raise_from (x1 := x1) (wpAny_bind (wpAny_mono (he pins s σ H _ I h) (fun u s1 hu => wpAny_bind (wpAny_standAt (wpAny_pure ?_))) fun _ _ z => z))))
  obtain ⟨⟨a, oe, vs, sI, H', cls, d, rfl, J, k, ne, ea, ez, ed, e1, na, os, ag, r, q⟩, six⟩ := hu
  have big : 4 < vs.size := six a oe vs rfl ea ed
  have P1 := (J.pin (x1, o1) (List.mem_append_left _ hp)).1
  have nx : x1 ≠ a := fun z => by
    rw [← z] at ne
    rw [P1] at ne
    cases ne
  have kb : ∀ b u, sI.heap.get? b = some u → (caused s1.heap a x1).get? b = some u := fun b u z => by
    rw [caused_off fun y => by rw [← y, ne] at z; cases z]
    exact k b u z
  obtain ⟨eb, db⟩ := caused_self (x1 := x1) ea ed
  have J1 : Inv X pins σ H' s1 := J.landed (B := sI.heap) (fun _ _ z _ => z) k (Heap.UpToSlots.of_keeps k) os ag
  obtain ⟨r1, _⟩ := r (model X.prog X.w) s1.heap (J.kIn.keeps k)
  obtain ⟨_, r2⟩ := r (model X.prog X.w) (caused s1.heap a x1) (J.kIn.keeps kb)
  have tb : (((vs.setIfInBounds 3 (Value.ref x1)).setIfInBounds 4 (Value.bool true)).setIfInBounds 2 (Value.ref x1))[1]? = some Value.none := set_other (by decide) (set_other (by decide) (set_other (by decide) e1))
  refine ⟨⟨a, oe, vs, cls, o1, o1.cls, rfl, ea, ez.1, ed, e1, big, nx, ⟨hh, o1, vs1, k _ _ P1, d1, n1⟩, k _ _ P1, rfl, r1, PySem.W.looks_subIn (J.kIn.keeps k) sub, r2, tk _ _ (L2.XE.new J (fun b u z => ?_) ne (Heap.get?_update_self _ eb (Obj.isFreed_of_fields (Obj.data_mapFields db _)))
    ⟨by rw [Obj.cls_mapFields, Obj.cls_mapFields, Obj.cls_mapFields]; exact ez.1, by rw [HandSPX.dict_mapFields, HandSPX.dict_mapFields, HandSPX.dict_mapFields]; exact ez.2⟩ (Obj.data_mapFields db _) tb na os ag q)⟩, fun Q0 q0 => ?_⟩
  · show ((caused s1.heap a x1).update a (Obj.mapFields (·.setIfInBounds 2 (.ref x1)))).get? b = some u
    rw [Heap.get?_update_other _ _ fun y => by rw [← y, ne] at z; cases z]
    exact kb b u z
  · obtain ⟨m, hn, hl⟩ := J1.loc
    obtain ⟨u, ru, l⟩ := hl i n (.ref x1) hN hσ (.inl hv)
    obtain rfl : u = Value.ref x1 := ru
    rcases l with ⟨_, hm⟩ | ⟨hk, _⟩
    · exact wpAny_bind (wpAny_Name (wpAny_loadName_local J1.ok.kind hv hn hm (wpAny_bind (wpAny_standAt (wpAny_pure q0)))) hd)
    · rcases hk with hk | hk
      · rw [hv] at hk; cases hk
      · rw [hv] at hk; cases hk
end
/-- an except suite that lets something out -/
abbrev sx (X : Cx) (a : Addr) (pn : List (Addr × Obj)) (xe : Value → Shared → Prop) : Cx := { X with A := X.A.mark (some (.ref a)), calm := false, pn := pn, xe := xe }
section
variable {X : Cx}
/-- it leaves the def though a local of the def has changed since -/
theorem held_leave {a : Addr} {B : Heap} {sI s' : Shared} {pins : List (Addr × Obj)} {σ : L2.St} {H : Hp} {cls : Value} {d : Option Addr} {E : XK} {E₁ : Value → Shared → Prop} (fr : X.env.frame = some X.env.locals) (hex : X.ex = [])
    (I : Inv X pins σ H sI) (nb : ∀ b o, sI.heap.get? b = some o → b ∉ frs X.stack → B.get? b = some o) (up : ∀ b o, b ≠ X.env.locals → sI.heap.get? b = some o → (∀ vs, o.data ≠ .fields vs) → ∃ sl, s'.heap.get? b = some { o with slots := sl })
    (held : HandSPX.HeldZ B (X.env :: X.outer) a (Zc cls d) X.env.locals s'.heap) (na : H a = none) (os : s'.os = sI.os) (ag : AllBare s'.gens) (w : E cls d H) :
    wpAny (model X.prog X.w) X.A (leaving X.env (.ref a)) (fun _ s'' => L2.CX X.prog X.w X.outer X.H_0 X.s_0 E (.ref a) s'') E₁ s' := by
  have old : ∀ b o, X.s_0.heap.get? b = some o → b ≠ X.env.locals := fun b o e z => by
    have h1 := Heap.lt_size e
    have h2 := I.ok.above
    rw [z] at h1
    exact absurd (Nat.lt_of_lt_of_le h1 h2) (Nat.lt_irrefl _)
  have off : ∀ b o, X.s_0.heap.get? b = some o → b ∉ X.fs → b ∉ frs X.stack := fun b o e hb m => (List.mem_cons.mp (I.stkSub b m)).elim (old b o e) hb
  have nex : ∀ b, b ∉ X.ex := fun b m => by rw [hex] at m; cases m
  refine HandSPX.leaves_heldZ fr held fun g fg ug => ?_
  refine ⟨a, B, H, cls, d, rfl, fg, I.inGround nb, ⟨fun b o e n hb => ?_, fun b o e hb => ?_, fun b o e n => I.base.free b o e n (nex b), fun b o e hb => ?_, I.base.tups, I.base.frzs, I.base.tbls⟩, na, os.trans I.os, ag, w⟩
  · exact nb b o (I.base.keep b o e n hb (nex b)) (off b o e hb)
  · obtain ⟨_, o2, e2, rec⟩ := I.ok.funs.mem hb
    cases e.symm.trans e2
    obtain ⟨l1, q1⟩ := I.base.slot b o e (I.ok.frf b hb) hb (nex b)
    obtain ⟨l2, q2⟩ := up b _ (old b o e) q1 rec
    obtain ⟨l3, q3⟩ := ug b _ q2 rec
    exact ⟨l3, q3⟩
  · obtain ⟨o2, e2⟩ := I.base.there b o e (nex b)
    exact ⟨o2, nb b o2 e2 (off b o e hb)⟩
/-- what the one clause asks: it names the exception -/
def yes (K : PySem.W.Frag) (c : Value) (i : Nat) (ts : Addr → Value → Option Addr → TS) (D : Ends) : WX := fun cls d σ H => PySem.W.exmOne K cls c = some true ∧ ∀ a, H a = none → ts a cls d (Ta.Off D i) (σ.set i (some (.ref a))) H
/-- frames other than L stand where L alone changes -/
theorem funs_but {L : Addr} {h h' base : Heap} (k : ∀ b, b ≠ L → h'.get? b = h.get? b) : ∀ {l : List Env}, (∀ b ∈ frs l, b ≠ L) → h.FunFrames base l → h'.FunFrames base l
  | [], _, _ => trivial
  | env :: r, ne, ⟨q, ⟨f, o, ef, eb, eo, rec⟩, more⟩ => by
    have ff : f ∈ frs (env :: r) := List.mem_filterMap.mpr ⟨env, List.mem_cons_self, ef⟩
    refine ⟨q, ⟨f, o, ef, eb, (k f (ne f ff)).trans eo, rec⟩, funs_but k (fun b m => ne b ?_) more⟩
    obtain ⟨e, me, z⟩ := List.mem_filterMap.mp m
    exact List.mem_filterMap.mpr ⟨e, List.mem_cons_of_mem _ me, z⟩
theorem held_but {L a : Addr} {h h' B : Heap} {env : Env} {outer : List Env} {cls : Value} {d : Option Addr} {m : Str → Option Value} (fr : env.frame = some L) (held : HandSPX.HeldZ B (env :: outer) a (Zc cls d) L h) (ne : ∀ b ∈ frs outer, b ≠ L) (k : ∀ b, b ≠ L → h'.get? b = h.get? b) (ns : h'.Ns L m) :
    HandSPX.HeldZ B (env :: outer) a (Zc cls d) L h' := by
  obtain ⟨st, fresh, ⟨q, ⟨f, o, ef, eb, eo, rec⟩, more⟩, oe, vs, T, oT, ts, ea, ez, ed, e1, nT, Tne, eT, dT, e3⟩ := held
  rw [fr] at ef
  cases ef
  have na : a ≠ L := fun z => by
    rw [z, eo] at ea
    cases ea
    exact rec _ ed
  have nL : T ≠ L := fun z => by
    rw [z, eo] at eT
    cases eT
    exact rec _ dT
  obtain ⟨oL, es, ep, hoL, hdL, _⟩ := ns
  refine ⟨fun b u e => (k b fun z => by rw [z, eb] at e; cases e).trans (st b u e), fresh, ⟨q, ⟨L, oL, fr, eb, hoL, fun vs z => by rw [hdL] at z; cases z⟩, funs_but k ne more⟩, oe, vs, T, oT, ts, (k a na).trans ea, ez, ed, e1, nT, Tne, (k T nL).trans eT, dT, e3⟩
/-- raise X(..) from n, in n's own suite -/
theorem ps_raise_sx {W : WX} {e : Expr} {t : L2.St → Hp → XK → Prop} {i : Nat} {n : Str} {np pos : Pos} {a : Addr} {oe : Obj} {cls : Value} {d : Option Addr} {pn : List (Addr × Obj)} {xe : Value → Shared → Prop} (hz : L2N.Zn cls d oe) (hf : ∃ vs, oe.data = .fields vs) (tk : L2.Takes (sx X a ((a, oe) :: pn) xe) W)
    (he : PMkS (sx X a ((a, oe) :: pn) xe) e t) (hN : X.N[i]? = some n) (hv : X.env.kindOf n = some .local) (hd : (n == ("__debug__" : Str)) = false := by decide) :
    PS (sx X a ((a, oe) :: pn) xe) (.Raise (some e) (some (.Name n np)) pos) (fun _ σ H => PySem.W.subIn X.K cls (.type "BaseException") = some true ∧ σ[i]? = some (some (.ref a)) ∧ t σ H fun cls d H' => W cls d σ H') := by
  obtain ⟨vs, e1⟩ := hf
  have r := ps_raise_from (X := sx X a ((a, oe) :: pn) xe) (pos := pos) (np := np) (o1 := oe) (i := i) (n := n) rfl List.mem_cons_self e1 (hz.2.2 vs e1) tk he hN hv hd
  rw [hz.1] at r
  exact r
/-- an exception without a context is one -/
theorem xe_of {W : WX} {u : Value} {s : Shared} (x : L2N.XE X W u s) : L2.XE X W u s := by
  obtain ⟨a, B, sI, pins, σ, H, cls, d, e, I, nb, up, sky, na, os, ag, w⟩ := x
  refine ⟨a, B, sI, pins, σ, H, cls, d, e, I, nb, up, ?_, na, os, ag, w⟩
  have z : ∀ o, L2N.Zn cls d o → Zc cls d o := fun o h => h.zc
  rcases sky with ⟨h1, h2, h3, oe, vs, h4, h5, h6⟩ | ⟨h1, h2, h3, oe, vs, T, oT, ts, h4, h5, h6⟩ | ⟨h1, h2, h3, oe, vs, T, oT, ts, h4, h5, h6⟩
  · exact .inl ⟨h1, h2, h3, oe, vs, h4, z _ h5, h6⟩
  · exact .inr (.inl ⟨h1, h2, h3, oe, vs, T, oT, ts, h4, z _ h5, h6⟩)
  · exact .inr (.inr ⟨h1, h2, h3, oe, vs, T, oT, ts, h4, z _ h5, h6⟩)
theorem passN {W : WX} (tk : L2.Takes X W) (σ : L2.St) : PassesAt (L2N.CX X.prog X.w) X σ (WE W σ) := fun _ _ _ e s' I c => tk e s' (xe_of (L2N.XE.of_call I (fun _ _ _ h => h) c))
theorem to_sx {a : Addr} {pn pn' : List (Addr × Obj)} {xe : Value → Shared → Prop} {σ : L2.St} {H : Hp} {s : Shared} (I : Inv (X.suite a pn) pn' σ H s) : Inv (sx X a pn xe) pn' σ H s := Inv.unwish (X := sx X a pn xe) (E := fun _ _ => False) I
theorem of_sx {a : Addr} {pn pn' : List (Addr × Obj)} {xe : Value → Shared → Prop} {σ : L2.St} {H : Hp} {s : Shared} (I : Inv (sx X a pn xe) pn' σ H s) : Inv (X.suite a pn) pn' σ H s := I.wish fun _ _ => False
/-- try: body, except C as n: a suite that may raise out of the def; the body raises nothing that C doesn't name -/
theorem ps_try_asR {x n : Str} {c : Value} {i : Nat} {b₀ : Stmt} {rows body : List Stmt} {p q pos : Pos} {tb : WX → TS} {ts : Addr → Value → Option Addr → TS} {E : XK} {E₁ : Value → Shared → Prop} (stk : X.stack = X.env :: X.outer) (fr : X.env.frame = some X.env.locals) (hex : X.ex = [])
    (hx : X.xe = fun e s' => wpAny (model X.prog X.w) X.A (leaving X.env e) (fun _ s'' => L2.CX X.prog X.w X.outer X.H_0 X.s_0 E e s'') E₁ s') (nd : X.N.Nodup) (hi : X.N[i]? = some n) (hl : X.env.kindOf n = some .local) (hc : Names X x c)
    (hb : ∀ (U : WX) (pn : List (Addr × Obj)) (xe : Value → Shared → Prop), L2N.Takes (X.tr pn xe) U → PassesOwn (model X.prog X.w) X.A X.env xe → PSs (X.tr pn xe) body (tb U))
    (hr : ∀ (a : Addr) (oe : Obj) (cls : Value) (d : Option Addr) (pn : List (Addr × Obj)) (xe : Value → Shared → Prop), L2N.Zn cls d oe → (∃ vs, oe.data = .fields vs) → L2.Takes (sx X a ((a, oe) :: pn) xe) (fun cls d _ H => E cls d H) → PSs (sx X a ((a, oe) :: pn) xe) (b₀ :: rows) (ts a cls d)) :
    PS X (.Try body [.ExceptHandler (some (.Name x p)) (some n) (b₀ :: rows) q] [] [] pos) (fun D σ H => tb (yes X.K c i ts D) D σ H) := by
  constructor
  intro pins s σ H D I go
  have ok := I.ok
  have hfr : X.A.frames = some (X.env :: X.outer) := by rw [ok.frames, stk]
  refine wpAny_Try_except ?_
  have run := (hb (yes X.K c i ts D) (X.pn ++ pins) (fun e t1 => wpAny (model X.prog X.w) X.A (noteFrame e X.env) (fun _ t2 => wpAny (model X.prog X.w) X.A (setFlight e none) (fun _ t3 =>
    wpAny (model X.prog X.w) X.A (handleBy e X.env [.ExceptHandler (some (.Name x p)) (some n) (b₀ :: rows) q]) (SP X pins D) X.xe t3) X.xe t2) X.xe t1) ?_ PassesOwn.looking).run [] s σ H D (I.toTry _) go
  · refine wpAny_mono run (fun f s1 e1 => ?_) fun _ _ z => z
    have e2 := Ta.calm_end ok e1
    cases f with
    | next => exact wpAny_execs_nil e2
    | ret u => exact e2
    | brk => exact e2
    | cont => exact e2
  intro u s' xx
  obtain ⟨a, B, sI, pins2, σ', H', cls, d, rfl, J', nb, up, sky, na, os, ag, one1, yes1⟩ := xx
  have sky2 : Sky B (X.env :: X.outer) a (L2N.Zn cls d) X.env.locals s'.heap := by
    rw [← stk]
    exact sky
  show wpAny (model X.prog X.w) X.A (noteFrame (.ref a) X.env) _ _ _
  refine L2N.Sky.land L2N.Zn.steady hfr fr sky2 fun h3 fl up3 => ?_
  have J : Inv X pins σ' H' sI := J'.ofTry ok
  have free : ∀ {g : Heap} {o : Obj} {vs : Array Value}, HandSPX.FlyingZ B (X.env :: X.outer) a (L2N.Zn cls d) g → g.get? a = some o → o.data = .fields vs → a ≠ X.env.locals ∧ a ∉ X.fs := by
    intro g o vs fg eo ed
    have out : a ∉ frs (X.env :: X.outer) := by
      intro m
      obtain ⟨_, o2, e2, no⟩ := fg.2.2.1.mem m
      cases eo.symm.trans e2
      exact no _ ed
    constructor
    · intro z
      exact out (List.mem_filterMap.mpr ⟨X.env, by simp, by rw [fr, z]⟩)
    · intro m
      obtain ⟨e, me, y⟩ := List.mem_filterMap.mp m
      exact out (List.mem_filterMap.mpr ⟨e, by simp [me], y⟩)
  obtain ⟨oe, vs, eo, ez, ed⟩ := fl.there
  obtain ⟨n1, n2⟩ := free fl eo ed
  have J3 := J.landed nb fl.1 (s' := { s' with heap := h3 }) (up.trans up3) os ag
  have S3 := J3.suite eo ed na n1 n2
  have kind : PySem.W.Looks (model X.prog X.w) h3 (typeOf (.ref a)) cls := by
    intro A Q E z k y
    refine wpAny_typeOf_ref (k _ _ eo) ?_
    rw [ez.1]
    exact y
  have one := PySem.W.exm_one (M := model X.prog X.w) J3.kIn kind one1
  refine wpAny_handleBy_cons (codeAny_handlers_test ?_) (by intro z; cases z)
  have name : ∀ {Q E : Value → Shared → Prop}, Q c { s' with heap := h3 } → wpAny (model X.prog X.w) (X.A.mark (some (.ref a))) (eval (.Name x p) X.env) Q E { s' with heap := h3 } := by
    intro Q E qq
    rcases hc with ⟨g1, g2, g3 | ⟨g3, g4, g5⟩⟩
    · exact ld_glob (X := X.suite a ((a, oe) :: (X.pn ++ pins))) S3 g1 g3 qq g2
    · exact ld_blt (X := X.suite a ((a, oe) :: (X.pn ++ pins))) S3 g1 g3 g4 qq g5 g2
  refine name (one.here ?_)
  refine codeAny_handlers_suite_as ?_
  refine HandSPX.lands_againZ fl fun g fg ug => ?_
  obtain ⟨oe2, vs2, eo2, ez2, ed2⟩ := fg.there
  obtain ⟨m1, m2⟩ := free fg eo2 ed2
  have J4 := J.landed nb fg.1 (s' := { s' with heap := g }) ((up.trans up3).trans ug) os ag
  refine store_ok (X := X.suite a ((a, oe2) :: (X.pn ++ pins))) (v := .ref a) (J4.suite eo2 ed2 na m1 m2) nd hi (.inl hl) rfl (fun s5 S5 => ?_) (.inr hl)
  have body := (hr a oe2 cls d (X.pn ++ pins) (fun u s6 => L2.XE (X.suite a ((a, oe2) :: (X.pn ++ pins))) (fun cls d _ H => E cls d H) u s6) ez2 ⟨_, ed2⟩ (fun u s6 z => by
    obtain ⟨a6, B6, sI6, pn6, σ6, H6, cls6, d6, e6, I6, r6⟩ := z
    exact ⟨a6, B6, sI6, pn6, σ6, H6, cls6, d6, e6, of_sx I6, r6⟩)).run [] s5 _ H' _ (to_sx S5) (yes1 a na)
  refine wpAny_mono body (fun f s6 end6 => ?_) (fun e6 s6 z => ?_)
  · cases f with
    | ret u =>
      obtain ⟨v6, σ6, H6, S6, r6, q6⟩ := end6
      exact gone_ok ((of_sx S6).unsuite ok) nd hi hl fun s7 J7 => ⟨_, _, _, J7, r6, q6⟩
    | next =>
      obtain ⟨σ6, H6, S6, q6⟩ := end6
      exact gone_ok ((of_sx S6).unsuite ok) nd hi hl fun s7 J7 => ⟨_, _, J7, q6⟩
    | brk =>
      obtain ⟨σ6, H6, S6, q6⟩ := end6
      exact gone_ok ((of_sx S6).unsuite ok) nd hi hl fun s7 J7 => ⟨_, _, J7, q6⟩
    | cont =>
      obtain ⟨σ6, H6, S6, q6⟩ := end6
      exact gone_ok ((of_sx S6).unsuite ok) nd hi hl fun s7 J7 => ⟨_, _, J7, q6⟩
  · obtain ⟨a2, B2, sI2, pn2, σ2, H2, cls2, d2, rfl, I2, nb2, up2, sky6, na2, os2, ag2, w⟩ := z
    have J2 : Inv X pins σ2 H2 sI2 := I2.unsuite ok
    have sky7 : Sky B2 (X.env :: X.outer) a2 (Zc cls2 d2) X.env.locals s6.heap := by
      rw [← stk]
      exact sky6
    have rest : ∀ h7, HandSPX.HeldZ B2 (X.env :: X.outer) a2 (Zc cls2 d2) X.env.locals h7 → s6.heap.UpToSlots h7 →
        wpAny (model X.prog X.w) (X.A.mark (some (.ref a))) (do bindName X.env n .none; unbindBehindTheSuite X.env n q) (fun _ s₄ => wpAny (model X.prog X.w) (X.A.mark (some (.ref a))) (passOn "try.except-as" (.ref a2) X.env : Sem Flow) (fun _ _ => False)
          (notedBy (model X.prog X.w) (X.A.mark (some (.ref a))) X.env (cameBackBy (model X.prog X.w) X.A X.env X.xe)) s₄)
          (fun y s₄ => wpAny (model X.prog X.w) (X.A.mark (some (.ref a))) (setFlight (.ref a2) none) (fun _ s₅ => (notedBy (model X.prog X.w) (X.A.mark (some (.ref a))) X.env (cameBackBy (model X.prog X.w) X.A X.env X.xe)) y s₅) (notedBy (model X.prog X.w) (X.A.mark (some (.ref a))) X.env (cameBackBy (model X.prog X.w) X.A X.env X.xe)) s₄) { s6 with heap := h7 } := by
      intro h7 held up7
      have J7 : Inv X pins σ2 H2 { s6 with heap := h7 } := J2.landed nb2 held.1 (up2.trans up7) os2 ag2
      obtain ⟨m, hn, _⟩ := id J7.loc
      have plain : (X.env.scope.kind == .class || (X.env.scope.kind == .module && X.env.locals != X.env.globals)) = false := by
        rw [ok.kind]
        rfl
      refine wpAny_nameGoes_keeps hl hn plain fun h8 v hn8 sb => ?_
      have held8 := held_but fr held (fun b hb z => by
        obtain ⟨_, o2, e2, _⟩ := J2.ok.funs.mem hb
        have l1 := Heap.lt_size e2
        have l2 := J2.ok.above
        rw [z] at l1
        exact absurd (Nat.lt_of_lt_of_le l1 l2) (Nat.lt_irrefl _)) sb.2 hn8
      obtain ⟨oe8, vs8, T8, oT8, ts8, q1, q2, q3, q4, q5⟩ := held8.2.2.2
      unfold PySem.passOn
      refine wpAny_bind (wpAny_field q1 q3 q4 ?_)
      rw [if_neg (by simp)]
      have out : wpAny (model X.prog X.w) (X.A.mark (some (.ref a))) (setFlight (.ref a2) X.env.frame) (fun _ t => wpAny (model X.prog X.w) (X.A.mark (some (.ref a))) (throw (.ref a2) : Sem Flow) (fun _ _ => False)
          (notedBy (model X.prog X.w) (X.A.mark (some (.ref a))) X.env (cameBackBy (model X.prog X.w) X.A X.env X.xe)) t) (notedBy (model X.prog X.w) (X.A.mark (some (.ref a))) X.env (cameBackBy (model X.prog X.w) X.A X.env X.xe)) { s6 with heap := h8, toks := s6.toks + 1 } := by
        rw [fr]
        refine HandSPX.setFlight_onZ held8 fun h9 held9 up9 => wpAny_throw ?_
        refine L2H.passesAt_of hx (some (.ref a)) _ _ ?_
        rw [hx]
        refine held_leave fr hex J2 nb2 (fun b o nL e rec => ?_) held9 na2 os2 ag2 w
        obtain ⟨l1, z1⟩ := (up2.trans up7) b o e rec
        obtain ⟨l2, z2⟩ := up9 b _ ((sb.2 b nL).trans z1) rec
        exact ⟨l2, z2⟩
      first
        | exact wpAny_bind out
        | exact wpAny_bind (wpAny_pure (wpAny_bind out))
    rcases sky7 with ⟨hB, hn, hF, oe7, vs7, he, hz, hd, h1⟩ | f7 | h7
    · exact HandSPX.look_newZ Zc.steady hfr hF fr he hB hn hd h1 hz rest
    · exact HandSPX.looks_onZ Zc.steady hfr fr f7 rest
    · exact HandSPX.againZ fr h7.2.2.2 (rest _ h7 (Heap.UpToSlots.refl _))
end
end Rf

/-! An own error with one field, BadTown, as the guide's skeleton on own errors gives it. -/
namespace PySem
namespace LowB
open PySem.W PySem.Calls PyProof.Rows PySem.HandSPX
/-! ### the text of __init__ -/
def iA (p1 p2 : Pos) : Arguments := { posonlyargs := [], args := [{ arg := "self", annotation := none, pos := p1 }, { arg := "what", annotation := none, pos := p2 }], vararg := none, kwonlyargs := [], kw_defaults := [], kwarg := none, defaults := [] }
def iB (q1 q2 q3 q4 : Pos) : List Stmt := [.Assign [.Attribute (.Name "self" q1) "what" q2] (.Name "what" q3) q4]
def iS : Scope := { kind := .function, names := [(PySem.Str.ofString "self", .local), (PySem.Str.ofString "what", .local)], isGenerator := false, isCoroutine := false, more := [] }
/-- what the written part says of Low, at C, and of its __init__, at fI -/
structure LowTxt (K : Frag) (mg : Str → Option Value) (C fI : Addr) : Prop where
  gC : mg "BadTown" = some (.ref C)
  cls : ∃ nm q N bs bm sn sub ab col dd k0 k1 k2 k3 k5, K.lookup C = some (excClassObj nm q C N bs bm true sn sub ab col dd k0 k1 k2 k3 k5 "ValueError.__new__") ∧ refsVE bm = true
  sa : findIn K (.ref C) "__setattr__" = some (some (.builtin "object.__setattr__"))
  ga : findIn K (.ref C) "__getattribute__" = some (some (.builtin "BaseException.__getattribute__"))
  gg : findIn K (.ref C) "__getattr__" = some none
  noN : findIn K (.ref C) "what" = some none
  iC : findIn K (.ref C) "__init__" = some (some (.ref fI))
  tC : typeIn K (.ref fI) = some (.type "function")
  kC : keepIn K (.ref C) = true
  exC : subIn K (.ref C) (.type "BaseException") = some true
  tyC : typeIn K (.ref C) = some (.type "type")
  hdC : hasDictIn K C = true
  te : exmOne K (.ref C) (.ref C) = some true
  fn : ∃ (oc : Value) (od : Option Addr) (doc pm : Value) (an : Option Addr) (cdv ct : Value) (osl : Array (Option Value)) (p1 p2 q1 q2 q3 q4 : Pos),
    K.lookup fI = some ⟨oc, od, .func (fnOf "__init__" "BadTown.__init__" (iA p1 p2) (iB q1 q2 q3 q4) iS .none .none doc pm an cdv ct), osl⟩ ∧ codeIn K cdv "BadTown.__init__" = true
theorem one_size (v : Value) : [v].length ≤ sizeLine := by
  rw [sizeLine_eq]
  exact (by decide : 1 ≤ 16777216)
theorem kept_but {K : Frag} {h h' : Heap} {x : Addr} (X : K.In h) (hx : K.lookup x = none) (k : ∀ b o, b ≠ x → h.get? b = some o → h'.get? b = some o) : K.In h' := fun a o e =>
  k a o (fun z => by rw [z, hx] at e; cases e) (X a o e)
theorem ldC {M : Model} {s : Shared} {name : Str} {scope : Scope} {L a : Addr} {cd : Value} {m : Str → Option Value} {x : Str} {pos : Pos} {v : Value} {Q : Value → Shared → Prop} {A : Around} {E : Value → Shared → Prop} (hn : s.heap.Ns L m) (hv : m x = some v) (h : Q v s)
    (hk : scope.kind = .function := by rfl) (hl : (envOfC name scope L a cd).kindOf x = some .local := by rfl) (hd : (x == ("__debug__" : Str)) = false := by decide) :
    wpAny M A (eval (.Name x pos) (envOfC name scope L a cd)) Q E s := wpAny_Name (wpAny_loadName_local hk hl hn hv h) hd
/-- what __init__ leaves of a fresh exception at x -/
structure InitEnd (h h' : Heap) (x C dx t1 : Addr) (v : Value) : Prop where
  keep : ∀ b o, b ≠ x → h.get? b = some o → h'.get? b = some o
  obj : h'.get? x = some { cls := .ref C, dict := some dx, data := .fields #[.ref t1, .none, .none, .none, .bool false, .none] }
  dbig : h.objs.size ≤ dx
  dne : dx ≠ x
  ns : h'.Ns1 dx (fun y => if y = "what" then some v else none)
/-- a made Low -/
structure OwnMade (h h' : Heap) (e C d : Addr) (v : Value) : Prop where
  keep : ∀ b o, h.get? b = some o → h'.get? b = some o
  new : h.objs.size ≤ e
  obj : ∃ oe vs, h'.get? e = some oe ∧ oe.cls = .ref C ∧ oe.dict = some d ∧ oe.data = .fields vs ∧ vs[1]? = some .none ∧ 4 < vs.size ∧ vs[2]? = some .none
  dbig : h.objs.size ≤ d
  dne : d ≠ e
  ns : h'.Ns1 d (fun y => if y = "what" then some v else none)
section
variable {prog : Program} {w : World} {A : Around} {E : Value → Shared → Prop} {R : Result → Shared → Prop} {s : Shared} {K : Frag} {mg : Str → Option Value} {C fI : Addr}
theorem low_init (T : LowTxt K mg C fI) {x t0 : Addr} {v : Value} (X : K.In s.heap) (hlim : s.heap.NoLimit) (hx : s.heap.get? x = some (excO C t0)) (hnx : K.lookup x = none) (hroom : A.depth < recursionLimit)
    (hq : ∀ h' tk dx, InitEnd s.heap h' x C dx t0 v → R (.ok (.ret .none)) { s with heap := h', toks := tk }) :
    codeAny (model prog w) A (.call (.ref fI) ⟨[.ref x, v], []⟩) R s := by
  obtain ⟨oc, od, doc, pm, an, cdv, ct, osl, p1, p2, q1, q2, q3, q4, ho, hcd⟩ := T.fn
  obtain ⟨nm, q, N, bs, bm, sn, sub, ab, col, dd, k0, k1, k2, k3, k5, hC, hbm⟩ := T.cls
  have hcl : clsIn K C = some { name := nm, bases := bs, mro := .ref C :: bm, ns := N, qualname := q, hasDict := true, slotNames := sn, subclasses := sub, abstract := ab, collection := col, hasDel := false } := by unfold clsIn; rw [hC] <;> rfl
  refine Att.call_fn (binds := [("self", .ref x), ("what", v)]) X hlim ho hcd hroom (BindsTo.of_eq (by first | rfl | with_unfolding_all rfl)) (by first | rfl | decide | with_unfolding_all rfl) (fun s₁ IC => ?_) rfl rfl rfl
  obtain ⟨h₁, tk₁, rfl⟩ := IC.toInCall.same
  have k : ∀ b o, s.heap.get? b = some o → h₁.get? b = some o := IC.toInCall.keep
  have hn := IC.toInCall.ns
  have hxL : s.heap.objs.size ≠ x := Nat.ne_of_gt (Heap.lt_size hx)
  have X₁ : K.In h₁ := X.keeps k
  have hx₁ := k _ _ hx
  -- self.by = by
  show wpAny _ _ (execs _ _) _ _ _
  refine wpAny_execs_cons (plainObj_wpAny_Assign_Attribute ?_)
  refine ldC (v := v) hn (by first | rfl | with_unfolding_all rfl | kernel_rfl) (ldC (v := .ref x) hn (by first | rfl | with_unfolding_all rfl | kernel_rfl) ?_)
  refine set_plain X₁ (ox := excO C t0) (od := none) ⟨hx₁, rfl, rfl, trivial⟩ T.sa ?_
  refine exc_osa X₁ hx₁ hcl (show refsVE (.ref C :: bm) = true from hbm) rfl T.noN (fun h₃ tk₃ dx k₃ dn dne hx₃ hn₃ => ?_)
  show wpAny _ _ (execs _ _) _ _ _
  have z : s.heap.objs.size < h₁.objs.size := hn.lt
  exact wpAny_execs_nil (hq h₃ tk₃ dx ⟨fun b o hb e => k₃ b o hb (k b o e), hx₃, Nat.le_of_lt (Nat.lt_of_lt_of_le z dn), dne, hn₃⟩)
theorem low_made (T : LowTxt K mg C fI) {v : Value} (X : K.In s.heap) (hlim : s.heap.NoLimit) (hroom : A.depth + 1 < recursionLimit)
    (hq : ∀ h' tk e d, OwnMade s.heap h' e C d v → R (.ok (.ret (.ref e))) { s with heap := h', toks := tk }) :
    codeAny (model prog w) A (.call (.ref C) ⟨[v], []⟩) R s := by
  obtain ⟨nm, q, N, bs, bm, sn, sub, ab, col, dd, k0, k1, k2, k3, k5, hC, hbm⟩ := T.cls
  obtain ⟨hp, g, dr, tk, os⟩ := s
  have k : ∀ b o, hp.get? b = some o → ((hp.push (kdv_tup [v])).push (excO C hp.objs.size)).get? b = some o := fun b o e => Heap.get?_push_of_some _ (Heap.get?_push_of_some _ e)
  have hget : ((hp.push (kdv_tup [v])).push (excO C hp.objs.size)).get? (hp.objs.size + 1) = some (excO C hp.objs.size) := by heap_get
  have hnx : K.lookup (hp.objs.size + 1) = none := by
    cases e : K.lookup (hp.objs.size + 1) with
    | none => rfl
    | some o =>
      have z : hp.get? (hp.objs.size + 1) = some o := X _ _ e
      exact absurd (Nat.lt_of_succ_lt (Heap.lt_size z)) (Nat.lt_irrefl _)
  refine call_own F.excBase_ValueError (fun X => refsVE_contains X bm hbm) (X _ _ hC) (looks_findIn X T.iC) (fun self => bind_fn X self T.tC) (one_size v) ?_
  refine low_init (s := ⟨(hp.push (kdv_tup [v])).push (excO C hp.objs.size), g, dr, tk, os⟩) T (X.keeps k) (hlim.keeps k) hget hnx ?_ fun h' tk' dx ⟨k', hx, dn, dne, hns⟩ => ?_
  · show A.depth + 1 < recursionLimit
    exact hroom
  · have old : ∀ b o, hp.get? b = some o → h'.get? b = some o := fun b o e => k' b o (Nat.ne_of_lt (Nat.lt_succ_of_lt (Heap.lt_size e))) (k b o e)
    have z : hp.objs.size + 1 + 1 ≤ dx := by
      first
        | (simpa only [Heap.size_push] using dn)
        | exact dn
        | (have q := dn; rw [Heap.size_push, Heap.size_push] at q; exact q)
    exact ⟨rfl, hq h' tk' (hp.objs.size + 1) dx ⟨old, Nat.le_succ _, ⟨_, _, hx, rfl, rfl, rfl, rfl, (by show 4 < 6; decide), rfl⟩, Nat.le_trans (Nat.le_trans (Nat.le_succ _) (Nat.le_succ _)) z, dne, hns⟩⟩
end
end LowB
end PySem
namespace L2
open PySem PySem.Spec PyProof.Rows
theorem relO_lowB {v : V} {v' : Value} (r : RelV v v') (f : Str) : RelO (List.lookup f [(("what" : Str), v)]) (if f = "what" then some v' else none) := by
  by_cases hw : f = "what"
  · subst hw
    rw [if_pos rfl]
    have q : List.lookup ("what" : Str) [(("what" : Str), v)] = some v := by simp [List.lookup]
    rw [q]
    exact r
  · rw [if_neg hw]
    have qw : (f == ("what" : Str)) = false := by simpa using hw
    have q2 : List.lookup f [(("what" : Str), v)] = none := by simp [List.lookup, qw]
    rw [q2]
    trivial
section
variable {X : Cx} {C fI : Addr}
/-- Low(e) -/
def tMkLowB (C : Addr) (ta : TA) : St → Hp → XK → Prop := fun σ H Q => ta σ H fun vs H1 => ∃ v, vs = [v] ∧ ∀ d, H1 d = none → Q (.ref C) (some d) (upd H1 d (.xd [(("what" : Str), v)]))
theorem pmkS_lowB {a : Expr} {ta : TA} {p pos : Pos} {k : Nat} (T : PySem.LowB.LowTxt X.K X.mg C fI) (hr : Room k X.A) (ha : PA X [a] ta) (hg : Gl X "BadTown" := by rfl)
    (he : starEach (a :: []) X.env = (false, eval a X.env) :: starEach [] X.env := by rfl) (hpl : (backTo pos (starEach [] X.env)).any (·.1) = false := by rfl) :
    L2H.PMk5 X (.Call (.Name "BadTown" p) [a] [] pos) (tMkLowB C ta) := by
  intro pins s σ H Q I h
  refine wpAny_Call_Name_kw (ld_glob I hg T.gC ?_)
  refine PySem.W.callWith_K (h₀ := X.base) I.ok.mod.kin T.kC (thn (ha.run pos pins s σ H _ I h) fun us s1 hh => ?_) he hpl
  obtain ⟨vs, H1, I1, r1, v, ev, q1⟩ := hh
  subst ev
  refine ⟨I1.kIn, ?_⟩
  cases r1 with
  | cons rv rn =>
    rename_i v' us'
    cases rn
    show wpAny _ _ (call (.ref C) [v']) _ _ _
    have hlim := I1.nolimit
    obtain ⟨hp, g, dr, tk, os⟩ := s1
    refine wpAny_call (PySem.LowB.low_made T I1.kIn hlim (by have := hr.dp; omega) fun h' tk' e d M => ?_)
    obtain ⟨oe, fv, hoe, hc, hd, hdat, h1, hz4, h2⟩ := M.obj
    have hns := M.ns
    obtain ⟨G', g1, g2⟩ := restrict h' fun b => decide (b ≠ e)
    have gk : ∀ b, b ≠ e → G'.get? b = h'.get? b := fun b hb => g1 b (decide_eq_true hb)
    have ge : G'.get? e = none := g2 e (by simp)
    have old : ∀ b o, hp.get? b = some o → G'.get? b = some o := fun b o q => (gk b (Nat.ne_of_lt (Nat.lt_of_lt_of_le (Heap.lt_size q) M.new))).trans (M.keep b o q)
    have ob : ObjOk X.prog X.w (upd H1 d (.xd [(("what" : Str), v)])) G' d (.xd [(("what" : Str), v)]) :=
      ⟨_, hns.at (fun o q => (gk d M.dne).trans q), fun f => relO_lowB rv f⟩
    have J : Inv X pins σ (upd H1 d (.xd [(("what" : Str), v)])) ⟨G', g, dr, tk', os⟩ := I1.laid (t' := tk') old M.dbig ob
    show L2N.MkP X pins σ Q (.ref e) ⟨h', g, dr, tk', os⟩ ∧ L2H.Six (.ref e) ⟨h', g, dr, tk', os⟩
    refine ⟨⟨e, oe, fv, ⟨G', g, dr, tk', os⟩, _, .ref C, some d, rfl, J, fun b o q => ?_, ge, hoe, ⟨hc, hd, fun vs q => by rw [hdat] at q; cases q; exact h2⟩, hdat, h1, ?_, rfl, I1.bare, raises_own T.exC T.tyC, q1 d (I1.hok.fresh M.dbig)⟩, fun a2 o2 vs2 ea hg2 hd2 => ?_⟩
    · by_cases hb : b = e
      · have q' : G'.get? b = some o := q
        rw [hb, ge] at q'; cases q'
      · exact (gk b hb).symm.trans q
    · rw [upd_ne (Ne.symm M.dne)]
      exact I1.hok.fresh M.new
    · cases ea
      have hg2 : h'.get? e = some o2 := hg2
      rw [hoe] at hg2
      cases hg2
      rw [hdat] at hd2
      cases hd2
      exact hz4
theorem pmk_lowB {a : Expr} {ta : TA} {p pos : Pos} {k : Nat} (T : PySem.LowB.LowTxt X.K X.mg C fI) (hr : Room k X.A) (ha : PA X [a] ta) (hg : Gl X "BadTown" := by rfl)
    (he : starEach (a :: []) X.env = (false, eval a X.env) :: starEach [] X.env := by rfl) (hpl : (backTo pos (starEach [] X.env)).any (·.1) = false := by rfl) :
    L2N.PMk X (.Call (.Name "BadTown" p) [a] [] pos) (tMkLowB C ta) := (pmkS_lowB T hr ha hg he hpl).pmk
/-- raise Low(e) -/
def tRaiseLowB (C : Addr) (W : WX) (ta : TA) : TS := fun _ σ H => tMkLowB C ta σ H fun cls d H' => W cls d σ H'
theorem ps_raiseLowB {a : Expr} {ta : TA} {W : WX} {p pos pos2 : Pos} {k : Nat} (hc : X.calm = true) (T : PySem.LowB.LowTxt X.K X.mg C fI) (hr : Room k X.A) (tk : L2N.Takes X W) (ha : PA X [a] ta) (hg : Gl X "BadTown" := by rfl)
    (he : starEach (a :: []) X.env = (false, eval a X.env) :: starEach [] X.env := by rfl) (hpl : (backTo pos (starEach [] X.env)).any (·.1) = false := by rfl) :
    PS X (.Raise (some (.Call (.Name "BadTown" p) [a] [] pos)) none pos2) (tRaiseLowB C W ta) := L2N.ps_raise hc tk (pmk_lowB T hr ha hg he hpl)
/-- low.by, low the exception that the suite holds (at a; its class cls, its dict d) -/
def tByLowB (C : Addr) (a : Addr) (cls : Value) (d : Option Addr) (te : TE) : TE := fun σ H Q => te σ H fun x H1 => x = .ref a ∧ cls = .ref C ∧ ∃ (dd : Addr) (v : V), d = some dd ∧ H1 dd = some (.xd [(("what" : Str), v)]) ∧ Q v H1
theorem pe_byLowB {a : Addr} {oe : Obj} {cls : Value} {d : Option Addr} {pn : List (Addr × Obj)} {e : Expr} {te : TE} {pos : Pos} (T : PySem.LowB.LowTxt X.K X.mg C fI) (hz : Zc cls d oe) (hf : ∃ vs, oe.data = .fields vs) (he : PE (X.suite a ((a, oe) :: pn)) e te)
    (hb : attributeBase e "what" X.env (eval e X.env) = eval e X.env := by rfl) :
    PE (X.suite a ((a, oe) :: pn)) (.Attribute e "what" pos) (tByLowB C a cls d te) := by
  refine ⟨fun pins s σ H Q I h => ?_⟩
  refine attr_of hb (thn (he.run pins s σ H _ I h) fun u s1 hh => ?_)
  obtain ⟨x, H1, I1, rx, ex, ec, dd, v, ed, ea, q⟩ := hh
  subst ex
  obtain rfl : u = Value.ref a := rx
  subst ec
  subst ed
  obtain ⟨ha, _⟩ := I1.pin (a, oe) (List.mem_append_left _ List.mem_cons_self)
  obtain ⟨vs, hd⟩ := hf
  have hx : ObjOk X.prog X.w H1 s1.heap dd (.xd [(("what" : Str), v)]) := I1.hok dd _ ea
  obtain ⟨mA, hns, hr⟩ := hx
  obtain ⟨od, ho, hl⟩ := lookIn_ns hns
  have l : List.lookup ("what" : Str) [(("what" : Str), v)] = some v := by simp [List.lookup]
  obtain ⟨u, hu, ru⟩ := RelO.some_of (v := v) (o := mA "what") (by rw [← l]; exact hr "what")
  have J : PySem.W.InstAt s1.heap a oe C (some od) := ⟨ha, hz.1, by unfold PySem.W.notCls; rw [hd] <;> rfl, by rw [hz.2]; exact ho⟩
  exact HandSPX.exc_get I1.kIn J T.ga T.gg T.exC (PySem.W.findObj_own T.hdC T.noN rfl (by rw [hl, hu])) (handed_of ru) ⟨v, H1, I1.tok _, ru, q⟩
end
end L2


/-! An own error with two fields, BadRow, after the one with one field. -/
namespace PySem
namespace LowR
open PySem.W PySem.Calls PyProof.Rows PySem.HandSPX
/-! ### the text of __init__ -/
def iA (p1 p2 p3 : Pos) : Arguments := { posonlyargs := [], args := [{ arg := "self", annotation := none, pos := p1 }, { arg := "row", annotation := none, pos := p2 }, { arg := "what", annotation := none, pos := p3 }], vararg := none, kwonlyargs := [], kw_defaults := [], kwarg := none, defaults := [] }
def iB (q1 q2 q3 q4 q5 q6 q7 q8 : Pos) : List Stmt := [.Assign [.Attribute (.Name "self" q1) "row" q2] (.Name "row" q3) q4, .Assign [.Attribute (.Name "self" q5) "what" q6] (.Name "what" q7) q8]
def iS : Scope := { kind := .function, names := [(PySem.Str.ofString "self", .local), (PySem.Str.ofString "row", .local), (PySem.Str.ofString "what", .local)], isGenerator := false, isCoroutine := false, more := [] }
/-- what the written part says of Low, at C, and of its __init__, at fI -/
structure LowTxt (K : Frag) (mg : Str → Option Value) (C fI : Addr) : Prop where
  gC : mg "BadRow" = some (.ref C)
  cls : ∃ nm q N bs bm sn sub ab col dd k0 k1 k2 k3 k5, K.lookup C = some (excClassObj nm q C N bs bm true sn sub ab col dd k0 k1 k2 k3 k5 "ValueError.__new__") ∧ refsVE bm = true
  sa : findIn K (.ref C) "__setattr__" = some (some (.builtin "object.__setattr__"))
  ga : findIn K (.ref C) "__getattribute__" = some (some (.builtin "BaseException.__getattribute__"))
  gg : findIn K (.ref C) "__getattr__" = some none
  noN : findIn K (.ref C) "row" = some none
  noM : findIn K (.ref C) "what" = some none
  iC : findIn K (.ref C) "__init__" = some (some (.ref fI))
  tC : typeIn K (.ref fI) = some (.type "function")
  kC : keepIn K (.ref C) = true
  exC : subIn K (.ref C) (.type "BaseException") = some true
  tyC : typeIn K (.ref C) = some (.type "type")
  hdC : hasDictIn K C = true
  te : exmOne K (.ref C) (.ref C) = some true
  fn : ∃ (oc : Value) (od : Option Addr) (doc pm : Value) (an : Option Addr) (cdv ct : Value) (osl : Array (Option Value)) (p1 p2 p3 q1 q2 q3 q4 q5 q6 q7 q8 : Pos),
    K.lookup fI = some ⟨oc, od, .func (fnOf "__init__" "BadRow.__init__" (iA p1 p2 p3) (iB q1 q2 q3 q4 q5 q6 q7 q8) iS .none .none doc pm an cdv ct), osl⟩ ∧ codeIn K cdv "BadRow.__init__" = true
theorem one_size (v u : Value) : [v, u].length ≤ sizeLine := by
  rw [sizeLine_eq]
  exact (by decide : 2 ≤ 16777216)
theorem kept_but {K : Frag} {h h' : Heap} {x : Addr} (X : K.In h) (hx : K.lookup x = none) (k : ∀ b o, b ≠ x → h.get? b = some o → h'.get? b = some o) : K.In h' := fun a o e =>
  k a o (fun z => by rw [z, hx] at e; cases e) (X a o e)
theorem ldC {M : Model} {s : Shared} {name : Str} {scope : Scope} {L a : Addr} {cd : Value} {m : Str → Option Value} {x : Str} {pos : Pos} {v : Value} {Q : Value → Shared → Prop} {A : Around} {E : Value → Shared → Prop} (hn : s.heap.Ns L m) (hv : m x = some v) (h : Q v s)
    (hk : scope.kind = .function := by rfl) (hl : (envOfC name scope L a cd).kindOf x = some .local := by rfl) (hd : (x == ("__debug__" : Str)) = false := by decide) :
    wpAny M A (eval (.Name x pos) (envOfC name scope L a cd)) Q E s := wpAny_Name (wpAny_loadName_local hk hl hn hv h) hd
/-- what __init__ leaves of a fresh exception at x -/
structure InitEnd (h h' : Heap) (x C dx t1 : Addr) (v u : Value) : Prop where
  keep : ∀ b o, b ≠ x → h.get? b = some o → h'.get? b = some o
  obj : h'.get? x = some { cls := .ref C, dict := some dx, data := .fields #[.ref t1, .none, .none, .none, .bool false, .none] }
  dbig : h.objs.size ≤ dx
  dne : dx ≠ x
  ns : h'.Ns1 dx (fun y => if y = "what" then some u else if y = "row" then some v else none)
/-- a made Low -/
structure OwnMade (h h' : Heap) (e C d : Addr) (v u : Value) : Prop where
  keep : ∀ b o, h.get? b = some o → h'.get? b = some o
  new : h.objs.size ≤ e
  obj : ∃ oe vs, h'.get? e = some oe ∧ oe.cls = .ref C ∧ oe.dict = some d ∧ oe.data = .fields vs ∧ vs[1]? = some .none ∧ 4 < vs.size
  dbig : h.objs.size ≤ d
  dne : d ≠ e
  ns : h'.Ns1 d (fun y => if y = "what" then some u else if y = "row" then some v else none)
section
variable {prog : Program} {w : World} {A : Around} {E : Value → Shared → Prop} {R : Result → Shared → Prop} {s : Shared} {K : Frag} {mg : Str → Option Value} {C fI : Addr}
theorem low_init (T : LowTxt K mg C fI) {x t0 : Addr} {v u : Value} (X : K.In s.heap) (hlim : s.heap.NoLimit) (hx : s.heap.get? x = some (excO C t0)) (hnx : K.lookup x = none) (hroom : A.depth < recursionLimit)
    (hq : ∀ h' tk dx, InitEnd s.heap h' x C dx t0 v u → R (.ok (.ret .none)) { s with heap := h', toks := tk }) :
    codeAny (model prog w) A (.call (.ref fI) ⟨[.ref x, v, u], []⟩) R s := by
  obtain ⟨oc, od, doc, pm, an, cdv, ct, osl, p1, p2, p3, q1, q2, q3, q4, q5, q6, q7, q8, ho, hcd⟩ := T.fn
  obtain ⟨nm, q, N, bs, bm, sn, sub, ab, col, dd, k0, k1, k2, k3, k5, hC, hbm⟩ := T.cls
  have hcl : clsIn K C = some { name := nm, bases := bs, mro := .ref C :: bm, ns := N, qualname := q, hasDict := true, slotNames := sn, subclasses := sub, abstract := ab, collection := col, hasDel := false } := by unfold clsIn; rw [hC] <;> rfl
  refine Att.call_fn (binds := [("self", .ref x), ("row", v), ("what", u)]) X hlim ho hcd hroom (BindsTo.of_eq (by first | rfl | with_unfolding_all rfl)) (by first | rfl | decide | with_unfolding_all rfl) (fun s₁ IC => ?_) rfl rfl rfl
  obtain ⟨h₁, tk₁, rfl⟩ := IC.toInCall.same
  have k : ∀ b o, s.heap.get? b = some o → h₁.get? b = some o := IC.toInCall.keep
  have hn := IC.toInCall.ns
  have hxL : s.heap.objs.size ≠ x := Nat.ne_of_gt (Heap.lt_size hx)
  have X₁ : K.In h₁ := X.keeps k
  have hx₁ := k _ _ hx
  -- self.by = by
  show wpAny _ _ (execs _ _) _ _ _
  refine wpAny_execs_cons (plainObj_wpAny_Assign_Attribute ?_)
  refine ldC (v := v) hn (by first | rfl | with_unfolding_all rfl | kernel_rfl) (ldC (v := .ref x) hn (by first | rfl | with_unfolding_all rfl | kernel_rfl) ?_)
  refine set_plain X₁ (ox := excO C t0) (od := none) ⟨hx₁, rfl, rfl, trivial⟩ T.sa ?_
  refine exc_osa X₁ hx₁ hcl (show refsVE (.ref C :: bm) = true from hbm) rfl T.noN (fun h₃ tk₃ dx k₃ dn dne hx₃ hn₃ => ?_)
  have z : s.heap.objs.size < h₁.objs.size := hn.lt
  have X₃ : K.In h₃ := kept_but X₁ hnx k₃
  have hn' := hn.at fun o q => k₃ _ o hxL q
  show wpAny _ _ (execs _ _) _ _ _
  refine wpAny_execs_cons (plainObj_wpAny_Assign_Attribute ?_)
  refine ldC (v := u) hn' (by first | rfl | with_unfolding_all rfl | kernel_rfl) (ldC (v := .ref x) hn' (by first | rfl | with_unfolding_all rfl | kernel_rfl) ?_)
  have hw : Within (fun y => if y = ("row" : Str) then some v else none) ["row"] := fun y hy => by
    by_cases c : y = ("row" : Str)
    · rw [c]; exact List.mem_singleton.mpr rfl
    · exact absurd (if_neg c) hy
  obtain ⟨oD, _, _, hoD, _, _⟩ := hn₃.count hw
  refine set_plain X₃ (ox := { cls := .ref C, dict := some dx, data := .fields #[.ref t0, .none, .none, .none, .bool false, .none] }) (od := some oD) ⟨hx₃, rfl, rfl, hoD⟩ T.sa ?_
  refine PySem.OEX.osa_old X₃ hx₃ hn₃ hw (by decide) hcl (show refsVE (.ref C :: bm) = true from hbm) rfl T.noM (fun h₄ tk₄ k₄ hn₄ => ?_)
  show wpAny _ _ (execs _ _) _ _ _
  have db : h₁.objs.size ≤ dx := dn
  exact wpAny_execs_nil (hq h₄ tk₄ dx ⟨fun b o hb e => k₄ b o (Nat.ne_of_lt (Nat.lt_of_lt_of_le (Heap.lt_size (k b o e)) db)) (k₃ b o hb (k b o e)), k₄ x _ dne.symm hx₃, Nat.le_of_lt (Nat.lt_of_lt_of_le z dn), dne, hn₄⟩)
theorem low_made (T : LowTxt K mg C fI) {v u : Value} (X : K.In s.heap) (hlim : s.heap.NoLimit) (hroom : A.depth + 1 < recursionLimit)
    (hq : ∀ h' tk e d, OwnMade s.heap h' e C d v u → R (.ok (.ret (.ref e))) { s with heap := h', toks := tk }) :
    codeAny (model prog w) A (.call (.ref C) ⟨[v, u], []⟩) R s := by
  obtain ⟨nm, q, N, bs, bm, sn, sub, ab, col, dd, k0, k1, k2, k3, k5, hC, hbm⟩ := T.cls
  obtain ⟨hp, g, dr, tk, os⟩ := s
  have k : ∀ b o, hp.get? b = some o → ((hp.push (kdv_tup [v, u])).push (excO C hp.objs.size)).get? b = some o := fun b o e => Heap.get?_push_of_some _ (Heap.get?_push_of_some _ e)
  have hget : ((hp.push (kdv_tup [v, u])).push (excO C hp.objs.size)).get? (hp.objs.size + 1) = some (excO C hp.objs.size) := by heap_get
  have hnx : K.lookup (hp.objs.size + 1) = none := by
    cases e : K.lookup (hp.objs.size + 1) with
    | none => rfl
    | some o =>
      have z : hp.get? (hp.objs.size + 1) = some o := X _ _ e
      exact absurd (Nat.lt_of_succ_lt (Heap.lt_size z)) (Nat.lt_irrefl _)
  refine call_own F.excBase_ValueError (fun X => refsVE_contains X bm hbm) (X _ _ hC) (looks_findIn X T.iC) (fun self => bind_fn X self T.tC) (one_size v u) ?_
  refine low_init (s := ⟨(hp.push (kdv_tup [v, u])).push (excO C hp.objs.size), g, dr, tk, os⟩) T (X.keeps k) (hlim.keeps k) hget hnx ?_ fun h' tk' dx ⟨k', hx, dn, dne, hns⟩ => ?_
  · show A.depth + 1 < recursionLimit
    exact hroom
  · have old : ∀ b o, hp.get? b = some o → h'.get? b = some o := fun b o e => k' b o (Nat.ne_of_lt (Nat.lt_succ_of_lt (Heap.lt_size e))) (k b o e)
    have z : hp.objs.size + 1 + 1 ≤ dx := by
      first
        | (simpa only [Heap.size_push] using dn)
        | exact dn
        | (have q := dn; rw [Heap.size_push, Heap.size_push] at q; exact q)
    exact ⟨rfl, hq h' tk' (hp.objs.size + 1) dx ⟨old, Nat.le_succ _, ⟨_, _, hx, rfl, rfl, rfl, rfl, by show 4 < 6; decide⟩, Nat.le_trans (Nat.le_trans (Nat.le_succ _) (Nat.le_succ _)) z, dne, hns⟩⟩
end
end LowR
end PySem
namespace L2
open PySem PySem.Spec PyProof.Rows
theorem relO_lowR {v y : V} {v' y' : Value} (r : RelV v v') (r2 : RelV y y') (f : Str) : RelO (List.lookup f [(("what" : Str), y), (("row" : Str), v)]) (if f = "what" then some y' else if f = "row" then some v' else none) :=
  relO_put (f := "what") (fs := [(("row" : Str), v)]) (mA := fun f => if f = "row" then some v' else none) r2 (fun g => relO_put (f := "row") (fs := []) (mA := fun _ => none) r (fun _ => True.intro) g) f
section
variable {X : Cx} {C fI : Addr}
/-- Low(e) -/
def tMkLowR (C : Addr) (ta : TA) : St → Hp → XK → Prop := fun σ H Q => ta σ H fun vs H1 => ∃ v y, vs = [v, y] ∧ ∀ d, H1 d = none → Q (.ref C) (some d) (upd H1 d (.xd [(("what" : Str), y), (("row" : Str), v)]))
theorem pmkS_lowR {a b : Expr} {ta : TA} {p pos : Pos} (T : PySem.LowR.LowTxt X.K X.mg C fI) (hr : X.A.depth + 1 < recursionLimit) (ha : PA X [a, b] ta) (hg : Gl X "BadRow" := by rfl)
    (he : starEach (a :: [b]) X.env = (false, eval a X.env) :: starEach [b] X.env := by rfl) (hpl : (backTo pos (starEach [b] X.env)).any (·.1) = false := by rfl) :
    PMkS X (.Call (.Name "BadRow" p) [a, b] [] pos) (tMkLowR C ta) := by
  intro pins s σ H Q I h
  refine wpAny_Call_Name_kw (ld_glob I hg T.gC ?_)
  refine PySem.W.callWith_K (h₀ := X.base) I.ok.mod.kin T.kC (thn (ha.run pos pins s σ H _ I h) fun us s1 hh => ?_) he hpl
  obtain ⟨vs, H1, I1, r1, v, y, ev, q1⟩ := hh
  subst ev
  refine ⟨I1.kIn, ?_⟩
  cases r1 with
  | cons rv rn =>
    rename_i v' us'
    cases rn with
    | cons ry rn =>
    rename_i y' us'
    cases rn
    show wpAny _ _ (call (.ref C) [v', y']) _ _ _
    have hlim := I1.nolimit
    obtain ⟨hp, g, dr, tk, os⟩ := s1
    refine wpAny_call (PySem.LowR.low_made T I1.kIn hlim hr fun h' tk' e d M => ?_)
    obtain ⟨oe, fv, hoe, hc, hd, hdat, h1, hz4⟩ := M.obj
    have hns := M.ns
    obtain ⟨G', g1, g2⟩ := restrict h' fun b => decide (b ≠ e)
    have gk : ∀ b, b ≠ e → G'.get? b = h'.get? b := fun b hb => g1 b (decide_eq_true hb)
    have ge : G'.get? e = none := g2 e (by simp)
    have old : ∀ b o, hp.get? b = some o → G'.get? b = some o := fun b o q => (gk b (Nat.ne_of_lt (Nat.lt_of_lt_of_le (Heap.lt_size q) M.new))).trans (M.keep b o q)
    have ob : ObjOk X.prog X.w (upd H1 d (.xd [(("what" : Str), y), (("row" : Str), v)])) G' d (.xd [(("what" : Str), y), (("row" : Str), v)]) :=
      ⟨_, hns.at (fun o q => (gk d M.dne).trans q), fun f => relO_lowR rv ry f⟩
    have J : Inv X pins σ (upd H1 d (.xd [(("what" : Str), y), (("row" : Str), v)])) ⟨G', g, dr, tk', os⟩ := I1.laid (t' := tk') old M.dbig ob
    show MkP X pins σ Q (.ref e) ⟨h', g, dr, tk', os⟩ ∧ L2H.Six (.ref e) ⟨h', g, dr, tk', os⟩
    refine ⟨⟨e, oe, fv, ⟨G', g, dr, tk', os⟩, _, .ref C, some d, rfl, J, fun b o q => ?_, ge, hoe, ⟨hc, hd⟩, hdat, h1, ?_, rfl, I1.bare, raises_own T.exC T.tyC, q1 d (I1.hok.fresh M.dbig)⟩, fun a2 o2 vs2 ea hg2 hd2 => ?_⟩
    · by_cases hb : b = e
      · have q' : G'.get? b = some o := q
        rw [hb, ge] at q'; cases q'
      · exact (gk b hb).symm.trans q
    · rw [upd_ne (Ne.symm M.dne)]
      exact I1.hok.fresh M.new
    · cases ea
      have hg2 : h'.get? e = some o2 := hg2
      rw [hoe] at hg2
      cases hg2
      rw [hdat] at hd2
      cases hd2
      exact hz4
theorem pmk_lowR {a b : Expr} {ta : TA} {p pos : Pos} {k : Nat} (T : PySem.LowR.LowTxt X.K X.mg C fI) (hr : Room k X.A) (ha : PA X [a, b] ta) (hg : Gl X "BadRow" := by rfl)
    (he : starEach (a :: [b]) X.env = (false, eval a X.env) :: starEach [b] X.env := by rfl) (hpl : (backTo pos (starEach [b] X.env)).any (·.1) = false := by rfl) :
    PMk X (.Call (.Name "BadRow" p) [a, b] [] pos) (tMkLowR C ta) := (pmkS_lowR T (by have := hr.dp; omega) ha hg he hpl).pmk
/-- raise Low(e) -/
def tRaiseLowR (C : Addr) (W : WX) (ta : TA) : TS := fun _ σ H => tMkLowR C ta σ H fun cls d H' => W cls d σ H'
theorem ps_raiseLowR {a b : Expr} {ta : TA} {W : WX} {p pos pos2 : Pos} {k : Nat} (hc : X.calm = true) (T : PySem.LowR.LowTxt X.K X.mg C fI) (hr : Room k X.A) (tk : Takes X W) (ha : PA X [a, b] ta) (hg : Gl X "BadRow" := by rfl)
    (he : starEach (a :: [b]) X.env = (false, eval a X.env) :: starEach [b] X.env := by rfl) (hpl : (backTo pos (starEach [b] X.env)).any (·.1) = false := by rfl) :
    PS X (.Raise (some (.Call (.Name "BadRow" p) [a, b] [] pos)) none pos2) (tRaiseLowR C W ta) := ps_raise hc tk (pmk_lowR T hr ha hg he hpl)
/-- low.by, low the exception that the suite holds (at a; its class cls, its dict d) -/
def tByLowRa (C : Addr) (a : Addr) (cls : Value) (d : Option Addr) (te : TE) : TE := fun σ H Q => te σ H fun x H1 => x = .ref a ∧ cls = .ref C ∧ ∃ (dd : Addr) (fs : List (Str × V)) (v : V), d = some dd ∧ H1 dd = some (.xd fs) ∧ List.lookup ("row" : Str) fs = some v ∧ Q v H1
theorem pe_byLowRa {a : Addr} {oe : Obj} {cls : Value} {d : Option Addr} {pn : List (Addr × Obj)} {e : Expr} {te : TE} {pos : Pos} (T : PySem.LowR.LowTxt X.K X.mg C fI) (hz : Zc cls d oe) (hf : ∃ vs, oe.data = .fields vs) (he : PE (X.suite a ((a, oe) :: pn)) e te)
    (hb : attributeBase e "row" X.env (eval e X.env) = eval e X.env := by rfl) :
    PE (X.suite a ((a, oe) :: pn)) (.Attribute e "row" pos) (tByLowRa C a cls d te) := by
  refine ⟨fun pins s σ H Q I h => ?_⟩
  refine attr_of hb (thn (he.run pins s σ H _ I h) fun u s1 hh => ?_)
  obtain ⟨x, H1, I1, rx, ex, ec, dd, fs, v, ed, ea, l, q⟩ := hh
  subst ex
  obtain rfl : u = Value.ref a := rx
  subst ec
  subst ed
  obtain ⟨ha, _⟩ := I1.pin (a, oe) (List.mem_append_left _ List.mem_cons_self)
  obtain ⟨vs, hd⟩ := hf
  have hx : ObjOk X.prog X.w H1 s1.heap dd (.xd fs) := I1.hok dd _ ea
  obtain ⟨mA, hns, hr⟩ := hx
  obtain ⟨od, ho, hl⟩ := lookIn_ns hns
  obtain ⟨u, hu, ru⟩ := RelO.some_of (v := v) (o := mA "row") (by rw [← l]; exact hr "row")
  have J : PySem.W.InstAt s1.heap a oe C (some od) := ⟨ha, hz.1, by unfold PySem.W.notCls; rw [hd] <;> rfl, by rw [hz.2]; exact ho⟩
  exact HandSPX.exc_get I1.kIn J T.ga T.gg T.exC (PySem.W.findObj_own T.hdC T.noN rfl (by rw [hl, hu])) (handed_of ru) ⟨v, H1, I1.tok _, ru, q⟩
/-- low.by, low the exception that the suite holds (at a; its class cls, its dict d) -/
def tByLowRb (C : Addr) (a : Addr) (cls : Value) (d : Option Addr) (te : TE) : TE := fun σ H Q => te σ H fun x H1 => x = .ref a ∧ cls = .ref C ∧ ∃ (dd : Addr) (fs : List (Str × V)) (v : V), d = some dd ∧ H1 dd = some (.xd fs) ∧ List.lookup ("what" : Str) fs = some v ∧ Q v H1
theorem pe_byLowRb {a : Addr} {oe : Obj} {cls : Value} {d : Option Addr} {pn : List (Addr × Obj)} {e : Expr} {te : TE} {pos : Pos} (T : PySem.LowR.LowTxt X.K X.mg C fI) (hz : Zc cls d oe) (hf : ∃ vs, oe.data = .fields vs) (he : PE (X.suite a ((a, oe) :: pn)) e te)
    (hb : attributeBase e "what" X.env (eval e X.env) = eval e X.env := by rfl) :
    PE (X.suite a ((a, oe) :: pn)) (.Attribute e "what" pos) (tByLowRb C a cls d te) := by
  refine ⟨fun pins s σ H Q I h => ?_⟩
  refine attr_of hb (thn (he.run pins s σ H _ I h) fun u s1 hh => ?_)
  obtain ⟨x, H1, I1, rx, ex, ec, dd, fs, v, ed, ea, l, q⟩ := hh
  subst ex
  obtain rfl : u = Value.ref a := rx
  subst ec
  subst ed
  obtain ⟨ha, _⟩ := I1.pin (a, oe) (List.mem_append_left _ List.mem_cons_self)
  obtain ⟨vs, hd⟩ := hf
  have hx : ObjOk X.prog X.w H1 s1.heap dd (.xd fs) := I1.hok dd _ ea
  obtain ⟨mA, hns, hr⟩ := hx
  obtain ⟨od, ho, hl⟩ := lookIn_ns hns
  obtain ⟨u, hu, ru⟩ := RelO.some_of (v := v) (o := mA "what") (by rw [← l]; exact hr "what")
  have J : PySem.W.InstAt s1.heap a oe C (some od) := ⟨ha, hz.1, by unfold PySem.W.notCls; rw [hd] <;> rfl, by rw [hz.2]; exact ho⟩
  exact HandSPX.exc_get I1.kIn J T.ga T.gg T.exC (PySem.W.findObj_own T.hdC T.noM rfl (by rw [hl, hu])) (handed_of ru) ⟨v, H1, I1.tok _, ru, q⟩
end
end L2


/-! isinstance of a caught error with a dict of its own; == over data without dicts; text * int. -/
namespace Xe
open PySem PySem.Spec PyProof.Rows L2
/-- isinstance(e, c), e the error of the class at C that the suite holds, with its own dict -/
def rIsD (K : PySem.W.Frag) (C a : Addr) (cls : Value) (d : Option Addr) : List V → Hp → VK → Prop := fun xs H Q => ∃ (c : V) (cv : Value) (b : Bool) (dd : Addr) (fs : List (Str × V)), xs = [.ref a, c] ∧ cls = .ref C ∧ d = some dd ∧ H dd = some (.xd fs) ∧ (∀ u, RelV c u → u = cv) ∧
  PySem.W.kitOne K (.ref C) cv = some b ∧ Q (.bl b) H
theorem call_isD {X : Cx} {a C : Addr} {oe : Obj} {cls : Value} {d : Option Addr} {pn : List (Addr × Obj)} (EC : ExcC X.K C) (hcl : (PySem.W.clsIn X.K C).isSome = true) (hz : Zc cls d oe) (hf : ∃ vs, oe.data = .fields vs) : CallR (X.suite a ((a, oe) :: pn)) (.builtin "isinstance") (rIsD X.K C a cls d) := by
  intro pins s σ H xs us Q I r h
  obtain ⟨c, cv, b, dd, fs, rfl, ec, ed, hH, hcv, e, q⟩ := h
  subst ec ed
  cases r with
  | cons rx rr =>
    cases rr with
    | cons rt rr =>
      cases rr
      cases rx
      have ec := hcv _ rt
      subst ec
      obtain ⟨hget, _⟩ := I.pin (a, oe) (List.mem_append.mpr (.inl List.mem_cons_self))
      obtain ⟨vs, hd⟩ := hf
      have hx : ObjOk X.prog X.w H s.heap dd (.xd fs) := I.hok dd _ hH
      obtain ⟨mA, hns, hr⟩ := hx
      obtain ⟨od, ho, hl⟩ := lookIn_ns hns
      have J : PySem.W.InstAt s.heap a oe C (some od) := ⟨hget, hz.1, by unfold PySem.W.notCls; rw [hd] <;> rfl, by rw [hz.2]; exact ho⟩
      exact PySem.W.kia_one (PySem.W.kitx_exc hcl EC.hg EC.hk EC.hs EC.ha EC.hn EC.ht EC.hm) I.kIn J e (fun z => nomatch z) fun tk => ⟨.bl b, H, I.kept (t' := tk) fun _ _ z => z, rfl, q⟩
/-- isinstance(e, (c1, c2)) -/
def rIsDT (K : PySem.W.Frag) (C a : Addr) (cls : Value) (d : Option Addr) : List V → Hp → VK → Prop := fun xs H Q => ∃ (tp : Addr) (cs : List V) (us : List Value) (b : Bool) (dd : Addr) (fs : List (Str × V)), xs = [.ref a, .ref tp] ∧ cls = .ref C ∧ d = some dd ∧ H dd = some (.xd fs) ∧ H tp = some (.tup cs) ∧ Paired ClsV cs us ∧
  PySem.W.kitAny K (.ref C) us = some b ∧ Q (.bl b) H
theorem call_isDT {X : Cx} {a C : Addr} {oe : Obj} {cls : Value} {d : Option Addr} {pn : List (Addr × Obj)} (EC : ExcC X.K C) (hcl : (PySem.W.clsIn X.K C).isSome = true) (hz : Zc cls d oe) (hf : ∃ vs, oe.data = .fields vs) : CallR (X.suite a ((a, oe) :: pn)) (.builtin "isinstance") (rIsDT X.K C a cls d) := by
  intro pins s σ H xs us Q I r h
  obtain ⟨tp, cs, ws, b, dd, fs, rfl, ec, ed, hH, hT, k, e, q⟩ := h
  subst ec ed
  obtain ⟨u1, u2, rfl, r1, r2⟩ := vals2 r
  cases (show u1 = Value.ref a from r1)
  cases (show u2 = Value.ref tp from r2)
  obtain ⟨hget, _⟩ := I.pin (a, oe) (List.mem_append.mpr (.inl List.mem_cons_self))
  obtain ⟨vs, hd⟩ := hf
  have hx : ObjOk X.prog X.w H s.heap dd (.xd fs) := I.hok dd _ hH
  obtain ⟨mA, hns, hr⟩ := hx
  obtain ⟨od, ho, hl⟩ := lookIn_ns hns
  have J : PySem.W.InstAt s.heap a oe C (some od) := ⟨hget, hz.1, by unfold PySem.W.notCls; rw [hd] <;> rfl, by rw [hz.2]; exact ho⟩
  obtain ⟨_, its, rv, o, h1, h2, n, h3⟩ := (show ObjOk X.prog X.w H s.heap tp (.tup cs) from I.hok tp _ hT)
  have e3 := ClsV.all k rv
  subst e3
  obtain ⟨oc, od2, dt, sl⟩ := o
  simp only at h2 h3
  subst h2 h3
  exact PySem.W.kia_tup (PySem.W.kitx_exc hcl EC.hg EC.hk EC.hs EC.ha EC.hn EC.ht EC.hm) I.kIn J h1 e (fun z => nomatch z) fun tk => ⟨.bl b, H, I.kept (t' := tk) fun _ _ z => z, rfl, q⟩
section
variable {X : Cx}
/-- None != None, (True, t) != (True, t): both answers the same -/
def rNe2 (K : PySem.W.Frag) : R2 := fun x y H Q => (x = .non ∧ y = .non ∧ Q (.bl false) H) ∨ ∃ p q t, x = .ref p ∧ y = .ref q ∧ SqT K H p [.bl true, .str t] ∧ SqT K H q [.bl true, .str t] ∧ Q (.bl false) H
theorem op_ne2 (hu : X.A.units + 64 < cLine) : OpR X (compareOp .NotEq) (rNe2 X.K) := by
  intro pins s σ H x y v u Q I rx ry h
  rcases h with ⟨rfl, rfl, q⟩ | ⟨p, q, t, rfl, rfl, hp, hq, h⟩
  · cases rx
    cases ry
    exact (PySem.SeqAt.RcNeAt.none_none (A := X.A) (s := s)) X.prog X.w X.xe _ ⟨.bl false, H, I, rfl, q⟩
  · cases rx
    cases ry
    obtain ⟨its, r1, p1, _⟩ := I.tuple hp
    obtain ⟨its2, r2, p2, _⟩ := I.tuple hq
    cases r1 with
    | cons a1 b1 =>
    cases b1 with
    | cons a2 b2 =>
    cases b2
    cases r2 with
    | cons c1 d1 =>
    cases d1 with
    | cons c2 d2 =>
    cases d2
    cases a1
    cases c1
    obtain ⟨k1, rfl⟩ := a2
    obtain ⟨k2, rfl⟩ := c2
    have e := PySem.SeqAt.RcNeAt.tuples (A := X.A) (s := s) (e := fun _ => true) p1 p2 (by omega) (fun j h1 h2 => by
      have hj : j = 0 ∨ j = 1 := by
        have : j < 2 := h1
        omega
      rcases hj with rfl | rfl
      · have := PySem.SeqAt.EqAt.bool_bool (A := X.A.in1) (s := s) true true
        simpa using this
      · have := PySem.SeqAt.EqAt.str_str (A := X.A.in1) (s := s) t k1 t k2
        simpa using this)
    exact e X.prog X.w X.xe _ ⟨.bl false, H, I, rfl, h⟩
/-- == of data without dicts -/
def rEqP (K : PySem.W.Frag) : R2 := fun x y H Q => ∃ d e, Dp K H x d ∧ Dp K H y e ∧ d.plain = true ∧ e.plain = true ∧ d.depth ≤ 60 ∧ Q (.bl (PyData.eqv d e)) H
theorem op_eqP (hu : X.A.units + 64 < cLine) : OpR X (compareOp .Eq) (rEqP X.K) := by
  intro pins s σ H x y v u Q I rx ry h
  obtain ⟨d, e, hd, he, sd, se, hz, q⟩ := h
  obtain ⟨as, r1⟩ := Dp.reads I d x v hd rx
  obtain ⟨bs, r2⟩ := Dp.reads I e y u he ry
  exact PySem.SeqAt.rcAt_plain r1 r2 sd se (by have : min d.depth e.depth ≤ d.depth := Nat.min_le_left _ _; omega) X.prog X.w X.xe _ ⟨.bl _, H, I, rfl, q⟩
/-- a sign times a number -/
def rMul1 : R2 := fun x y H Q => ∃ (c n : Nat), x = .str ⟨#[c]⟩ ∧ y = .int (n : Nat) ∧ 1 ≤ n ∧ n ≤ 1000 ∧ Q (.str ⟨(List.replicate n c).toArray⟩) H
theorem rep_fold (c : Nat) : ∀ (n : Nat) (acc : Array Nat), ((List.replicate n #[c]).foldl (· ++ ·) acc).toList = acc.toList ++ List.replicate n c
  | 0, acc => by simp
  | n + 1, acc => by
    rw [List.replicate_succ, List.foldl_cons, rep_fold c n, Array.toList_append, List.replicate_succ, List.append_assoc]
    rfl
theorem mul_one (c n : Nat) (h : 1 ≤ n) : Txt.mul ⟨#[c]⟩ ((n : Nat) : Int) = ⟨(List.replicate n c).toArray⟩ := by
  unfold Txt.mul
  rw [if_neg (by omega)]
  refine TL.ext_tl ?_
  show ((if _ then (⟨#[c]⟩ : Str) else _) : Str).cps.toList = List.replicate n c
  by_cases z : n = 1
  · subst z
    rfl
  · rw [if_neg (by
      intro q
      rcases Bool.or_eq_true_iff.mp q with q | q
      · have := eq_of_beq q
        omega
      · cases q)]
    rw [Int.toNat_natCast]
    show ((List.replicate n #[c]).foldl (· ++ ·) #[]).toList = _
    rw [rep_fold]
    rfl
theorem op_mul1 : OpR X (binaryOp .Mult) rMul1 := by
  intro pins s σ H x y v u Q I rx ry h
  obtain ⟨c, n, rfl, rfl, h1, h2, q⟩ := h
  obtain ⟨t, rfl⟩ := rx
  obtain ⟨t', rfl⟩ := ry
  refine PySem.SB.mul (x := ⟨#[c]⟩) (n := ((n : Nat) : Int)) ⟨?_, fun _ _ => ?_, fun _ _ => ?_⟩ fun t2 k => ?_
  · rw [decide_eq_false (by omega), decide_eq_false (by omega)]
    rfl
  · show ¬ ((1 : Nat) : Int) > (2 ^ 63 - 1) / ((n : Nat) : Int)
    have : (1 : Int) ≤ (2 ^ 63 - 1) / ((n : Nat) : Int) := Int.le_ediv_of_mul_le (by omega) (by omega)
    omega
  · show PySem.Builtin.Str.tooLong (1 * ((n : Nat) : Int).toNat) = false
    rw [Int.toNat_natCast, Nat.one_mul]
    have h3 : (1000 : Nat) ≤ sizeLine := by decide
    exact decide_eq_false (by omega)
  · rw [mul_one c n h1]
    exact ⟨.str _, H, I.tok _, ⟨_, rfl⟩, q⟩
end
end Xe

/-! repr of data, and defs that are called where no repr is under way. -/
namespace Rp
open PySem PySem.Spec PyProof.Rows L2
section
variable {X : Cx}
def rRepr (K : PySem.W.Frag) : List V → Hp → VK → Prop := fun xs H Q => ∃ x d, xs = [x] ∧ Dp K H x d ∧ d.showable = true ∧ d.hasDict = false ∧ d.depth ≤ 60 ∧ d.shown.length ≤ sizeLine ∧ Q (.str d.shown) H
theorem call_reprD (hg : X.A.guards = some []) (hu : X.A.units + 64 < cLine) : CallR X (.builtin "repr") (rRepr X.K) := by
  intro pins s σ H xs us Q I r h
  obtain ⟨x, d, rfl, hd, hs, hn, hz, hl, q⟩ := h
  cases r with
  | cons rx rn =>
    cases rn
    obtain ⟨as, rd⟩ := Dp.reads I d x _ hd rx
    cases rd with
    | none => exact PySem.P.repr_of_none ⟨.str _, H, I.tok _, ⟨_, rfl⟩, q⟩
    | bool b => exact PySem.P.repr_of_bool ⟨.str _, H, I.tok _, ⟨_, rfl⟩, q⟩
    | int i t => exact PySem.P.repr_of_int (of_decide_eq_true hs) ⟨.str _, H, I.tok _, ⟨_, rfl⟩, q⟩
    | str z t => exact PySem.P.repr_of_str (hsz := hl) ⟨.str _, H, I.tok _, ⟨_, rfl⟩, q⟩
    | list h1 h2 h3 h4 =>
      exact PySem.repr_of_reads' (.list h1 h2 h3 h4) hs (fun e => by rw [hn] at e; cases e) hg (by omega) (fun _ _ e => e) (fun g u tk k => ⟨.str _, H, I.kept (t' := tk) k, ⟨_, rfl⟩, q⟩) hl
    | tuple h1 h2 h3 h4 =>
      exact PySem.repr_of_reads' (.tuple h1 h2 h3 h4) hs (fun e => by rw [hn] at e; cases e) hg (by omega) (fun _ _ e => e) (fun g u tk k => ⟨.str _, H, I.kept (t' := tk) k, ⟨_, rfl⟩, q⟩) hl
    | dict => cases hd
end
/-- as FnOk, where no repr is under way -/
structure GOk (P : Program) (w : World) (K : PySem.W.Frag) (mg : Str → Option Value) (base : Heap) (CX : CXT) (k : Nat) (f : Addr) (fd : FuncData) (ps : List Str) (sp : Sp) : Prop where
  len : ∀ vs H Q E, sp vs H Q E → vs.length = ps.length
  run : ∀ (A : Around) (outer : List Env) (s : Shared) (H : Hp) (args : Args) (us : List Value) (vs : List V) (Q : VK) (E : XK), Room k A → A.guards = some [] → Env0 P w K mg base A outer s H → BindsTo s fd args (ps.zip us) → Vals vs us → sp vs H Q E →
    codeAny (model P w) A (.call (.ref f) args) (CR CX outer P w H s Q E) s
section
variable {CX : CXT} {P : Program} {w : World} {K : PySem.W.Frag} {mg : Str → Option Value} {base : Heap} {k : Nat} {f : Addr} {fd : FuncData} {ps : List Str} {sp : Sp}
theorem GOk.of (F : FnOk P w K mg base CX k f fd ps sp) : GOk P w K mg base CX k f fd ps sp := ⟨F.len, fun A outer s H args us vs Q E hr _ => F.run A outer s H args us vs Q E hr⟩
theorem GOk.mono {j : Nat} (F : GOk P w K mg base CX j f fd ps sp) (h : j ≤ k) : GOk P w K mg base CX k f fd ps sp := ⟨F.len, fun A outer s H args us vs Q E hr => F.run A outer s H args us vs Q E (hr.mono h)⟩
theorem gfn_of {name qual : Str} {params : Arguments} {body : List Stmt} {scope : Scope} {dV kV doc pm cdv ct oc : Value} {an od : Option Addr} {osl : Array (Option Value)} {N : List Str}
    (lk : K.lookup f = some ⟨oc, od, .func (PySem.W.fnOf name qual params body scope dV kV doc pm an cdv ct), osl⟩) (hcd : PySem.W.codeIn K cdv qual = true) (S : FnScope N ps scope)
    (len : ∀ vs H Q E, sp vs H Q E → vs.length = ps.length)
    (hbody : ∀ (A : Around) (outer : List Env) (s : Shared) (H : Hp) (vs : List V) (Q : VK) (E : XK), A.guards = some [] → Room k (A.deeper (envOfC qual scope s.heap.objs.size f cdv)) → sp vs H Q E →
      ∃ t, PSs (cxOf CX P w K mg base N qual scope f cdv A outer s H E) body t ∧ t { nx := fun _ H' => Q .non H', rt := Q } (start N vs) H) :
    GOk P w K mg base CX (k + 1) f (PySem.W.fnOf name qual params body scope dV kV doc pm an cdv ct) ps sp := by
  refine ⟨len, fun A outer s H args us vs Q E hr hg e0 hb r hsp => ?_⟩
  have nl := len _ _ _ _ hsp
  have old : ∀ b o, base.get? b = some o → s.heap.get? b = some o := fun b o e => (e0.bs b o e).1
  have KX : K.In s.heap := e0.mod.kin.keeps old
  have lim : s.heap.NoLimit := e0.mod.nolimit.keeps old
  have kinds : ∀ y ∈ ps.zip us, scope.names.lookup y.1 = some .local ∨ (scope.names.lookup y.1 = some .cell ∧ ((cellsFrom (s.heap.objs.size + 1) scope.names []).lookup y.1).isSome = true) := fun ⟨n, v⟩ hy =>
    (S.par n (List.of_mem_zip hy).1).imp id fun q => ⟨q, PySem.W.cellsFrom_some _ _ _ (.inl q)⟩
  refine codeAny_call_function hr.depth (KX _ _ lk) rfl S.co S.gen rfl (PySem.W.codeRec_of KX hcd) (hb _ _ _ _ ?_)
  refine wpAny_newFunctionEnv_cells S.kind kinds fun env ee s1 x => ?_
  subst ee
  refine ⟨lim.keeps x.toInCall.keep, codeAny_func ?_⟩
  obtain ⟨t, ht, hq⟩ := hbody A outer s H vs Q E hg (hr.deeper _) hsp
  have I0 : Inv (cxOf CX P w K mg base N qual scope f cdv A outer s H E) [] (start N vs) H s1 := inv_start S hr.hd e0 nl r x
  refine wpAny_mono (ht.run [] s1 (start N vs) H _ I0 hq) (fun fl s' hs => ?_) fun e s' hs => hs
  cases fl with
  | ret u =>
    obtain ⟨v, σ', H', J, rv, q⟩ := hs
    exact ⟨v, H', J.os, J.bare, J.base, J.hok, rv, q⟩
  | next =>
    obtain ⟨σ', H', J, q⟩ := hs
    exact ⟨V.non, H', J.os, J.bare, J.base, J.hok, rfl, q⟩
  | brk =>
    obtain ⟨_, _, _, q⟩ := hs
    exact q.elim
  | cont =>
    obtain ⟨_, _, _, q⟩ := hs
    exact q.elim
theorem gok {x qual : Str} {st : Stmt} {N : List Str} (F : Fun K x qual st f fd) (S : FnScope N ps (defScope st)) (len : ∀ vs H Q E, sp vs H Q E → vs.length = ps.length)
    (hbody : ∀ (cdv : Value) (A : Around) (outer : List Env) (s : Shared) (H : Hp) (vs : List V) (Q : VK) (E : XK), A.guards = some [] → Room k (A.deeper (envOfC qual (defScope st) s.heap.objs.size f cdv)) → sp vs H Q E →
      ∃ t, PSs (cxOf CX0 P w K mg base N qual (defScope st) f cdv A outer s H E).nox (defBody st) t ∧ t { nx := fun _ H' => Q .non H', rt := Q } (start N vs) H) : GOk P w K mg base CX0 (k + 1) f fd ps sp := by
  obtain ⟨oc, od, kV, doc, pm, an, cdv, ct, osl, rfl, lk, hcd⟩ := F.ex
  refine gfn_of lk hcd S len fun A outer s H vs Q E hg hr hsp => ?_
  obtain ⟨t, h, q⟩ := hbody cdv A outer s H vs Q E hg hr hsp
  exact ⟨t, h.nox, q⟩
end
section
variable {X : Cx} {CX : CXT} {k : Nat} {f : Addr} {fd : FuncData} {ps : List Str} {sp : Sp} {E : XK} {ds : List Value} {dvs : List V} {x : Str} {e : Expr} {es : List Expr} {t : TA} {p pos : Pos}
theorem pe_gcall (F : GOk X.prog X.w X.K X.mg X.base CX k f fd ps sp) (gd : X.A.guards = some []) (hr : Room k X.A) (hg : Gl X x) (hm : X.mg x = some (.ref f)) (hk : PySem.W.keepIn X.K (.ref f) = true) (hb : Binds X.K fd ps ds) (hd : Vals dvs ds) (hx : Passes CX X E)
    (ha : PA X (e :: es) t) (hdb : (x == ("__debug__" : Str)) = false := by decide) (he : starEach (e :: es) X.env = (false, eval e X.env) :: starEach es X.env := by rfl) (hpl : (backTo pos (starEach es X.env)).any (·.1) = false := by rfl) :
    PE X (.Call (.Name x p) (e :: es) [] pos) (tCall sp dvs E t) := by
  refine ⟨fun pins s σ H Q I h => ?_⟩
  refine wpAny_Call_Name_kw (ld_glob I hg hm ?_ hdb)
  refine PySem.W.callWith_K (h₀ := X.base) I.ok.mod.kin hk (thn (ha.run pos pins s σ H _ I h) fun us s1 ⟨vs, H1, I1, r, q⟩ => ⟨I1.kIn, ?_⟩) he hpl
  have r2 : Vals (vs ++ dvs) (us ++ ds) := r.append hd
  have nl : (us ++ ds).length = ps.length := r2.length.symm.trans (F.len _ _ _ _ q)
  refine wpAny_call (codeAny_mono (F.run X.A X.stack s1 H1 ⟨us, []⟩ (us ++ ds) (vs ++ dvs) Q E hr gd I1.env0 (hb s1 us I1.kIn nl) r2 q) fun res s' hq => ?_)
  cases res with
  | error z => exact hx pins σ H1 s1 z s' I1 hq
  | ok fl =>
    cases fl with
    | ret u => exact I1.after hq
    | next => exact hq.elim
    | brk => exact hq.elim
    | cont => exact hq.elim
end
end Rp

/-! A method with keywords alone; a def that may raise, where it does not. -/
namespace Mk1
open PySem PySem.Spec PyProof.Rows L2
theorem passF {X : Cx} : Passes (L2.CX X.prog X.w) X (fun _ _ _ => False) := by
  intro pins σ H s e s' I h
  obtain ⟨_, _, _, _, _, _, _, _, _, _, _, _, z⟩ := h
  exact z.elim
section
variable {X : Cx} {CX : CXT} {k : Nat} {f C : Addr} {fd : FuncData} {ps ks : List Str} {sp : Sp} {E : XK} {m : Str} {pos apos : Pos} {o : Expr} {kws : List Keyword} {ta : TE} {tk : TA} {g : List Value → List Value → List Value} {gV : List V → List V → List V} {pl : Sem Bool}
def tMethN (C : Addr) (m : Str) (n : Nat) (sp : Sp) (gV : List V → List V → List V) (E : XK) (ta : TE) (tk : TA) : TE := fun σ H Q => ta σ H fun x H1 => ∃ a dx fs, x = .ref a ∧ H1 a = some (.ins C dx fs) ∧ fs.lookup m = none ∧
  tk σ H1 fun zs H2 => zs.length = n ∧ sp (gV [x] zs) H2 Q E
theorem pe_methN (ho : PE X o ta) (c : Cls X.K C) (hm : Meth X.K C m f) (F : FnOk X.prog X.w X.K X.mg X.base CX k f fd ps sp) (hr : Room k X.A) (hb : KBn X.K fd ps 1 ks g gV) (hx : Passes CX X E) (hk : PK X kws tk)
    (h1 : (backToKw pos (keywordEach kws X.env)).all (·.1.isSome) = true := by rfl) (h2 : (backToKw pos (keywordEach kws X.env)).filterMap (·.1) = ks := by rfl)
    (h3 : ((backTo pos (starEach [] X.env)).any (·.1) || (backToKw pos (keywordEach kws X.env)).any (·.1.isNone)) = false := by rfl)
    (h4 : eval (.Call (.Attribute o m apos) [] kws pos) X.env = (do
      let v ← eval o X.env
      standAt apos.atName
      let (a, b) ← holding [v] (getMethod v m pl)
      callWith pos a b (backTo pos (starEach [] X.env)) (backToKw pos (keywordEach kws X.env))) := by rfl) :
    PE X (.Call (.Attribute o m apos) [] kws pos) (tMethN C m ks.length sp gV E ta tk) := by
  constructor
  intro pins s σ H Q I h
  refine PySem.W.methodCall_KW (pl := pl) (thn (ho.run pins s σ H _ I h) fun u s1 w => ?_) h4
  obtain ⟨x, H1, I1, rx, a, dx, fs, ex, ea, l, q⟩ := w
  subst ex
  cases (show u = Value.ref a from rx)
  refine getmeth_ok I1 ea c hm l ?_
  refine PySem.W.callWith_KW0 (first := [.ref a]) (h₀ := X.base) I.ok.mod.kin hm.kp h1 (thn (hk.run pos pins s1 σ H1 _ I1 q) fun ws s2 w2 => ?_) h3
  obtain ⟨zs, H2, I2, rz, l2, q2⟩ := w2
  refine ⟨I2.kIn, ?_⟩
  rw [h2]
  exact run_fnN (us := [.ref a]) (vs := [.ref a]) F hr hb hx I2 (.cons rfl .nil) rz rfl l2 q2
end
end Mk1

/-! Operators of own classes, by values: ==, <, .. by __eq__, __lt__, ..; |, &, - by __or__, ..; in by __contains__; len by __len__. -/
namespace Ow
open PySem PySem.Spec PyProof.Rows L2
section
variable {X : Cx} {CX : CXT} {C g : Addr} {n : Nat} {sp : Sp} {E : XK}
theorem ins_at {pins : List (Addr × Obj)} {σ : L2.St} {H : Hp} {s : Shared} {a C dx : Addr} {fs : List (Str × V)} (I : Inv X pins σ H s) (e : H a = some (.ins C dx fs)) : ∃ ox od, PySem.W.InstAt s.heap a ox C od := by
  obtain ⟨mA, O, _⟩ := ins_get I.hok e
  obtain ⟨od, J, _⟩ := O.look
  exact ⟨_, _, J⟩
/-- x op y by the own def of x's class at C; y's class not below C -/
def rCmp (K : PySem.W.Frag) (C : Addr) (sp : Sp) (E : XK) : R2 := fun x y H Q => ∃ a dx fs t, x = .ref a ∧ H a = some (.ins C dx fs) ∧ TyX K H y t ∧ PySem.W.notFirst K C t = true ∧ sp [x, y] H Q E
theorem op_cmp {op : CmpOp} (hop : ∀ a b, compareOp op a b = richCompare op a b) (hs : PySem.W.findIn X.K (.ref C) (cmpInfo op).2.1 = some (some (.ref g))) (hf : PySem.W.isFn X.K (.ref g) = true) (F : FnR X.prog X.w X.K X.mg X.base CX n g sp)
    (hr : Room n X.A) (hx : Passes CX X E) : OpR X (compareOp op) (rCmp X.K C sp E) := by
  intro pins s σ H x y v u Q I rx ry h
  obtain ⟨a, dx, fs, t, rfl, ha, ty, hn, q⟩ := h
  cases (show v = Value.ref a from rx)
  obtain ⟨ox, od, J⟩ := ins_at I ha
  obtain ⟨P, k, hp, _⟩ := kit_of I ry ty
  obtain ⟨m, hF⟩ := I.fr
  rw [hop]
  refine PySem.W.cmp_K (op := op) (tb := t) hr.units0 hF I.ok.mod.kin J (k.ty _ _ I.kIn hp) hn hs hf ?_
  refine wpAny_mono (wpAny_call (run_fnR (us := [.ref a, u]) (vs := [.ref a, y]) F hr hx I (.cons rfl (.cons ry .nil)) q)) (fun w s' z => ?_) fun _ _ x => x
  obtain ⟨z', H', I', rz, qz⟩ := z
  exact SlX.cmpback rz ⟨z', H', I', rz, qz⟩
/-- x op y, both of the class at C -/
def rBin (C : Addr) (sp : Sp) (E : XK) : R2 := fun x y H Q => ∃ a dx fs b dy gs, x = .ref a ∧ y = .ref b ∧ H a = some (.ins C dx fs) ∧ H b = some (.ins C dy gs) ∧ sp [x, y] H Q E
theorem op_bin {op : Operator} (hc : PySem.W.selfFirst X.K C = true) (hs : PySem.W.findIn X.K (.ref C) (PySem.dunder op.info.2) = some (some (.ref g))) (hf : PySem.W.isFn X.K (.ref g) = true) (F : FnR X.prog X.w X.K X.mg X.base CX n g sp)
    (hr : Room n X.A) (hx : Passes CX X E) : OpR X (binaryOp op) (rBin C sp E) := by
  intro pins s σ H x y v u Q I rx ry h
  obtain ⟨a, dx, fs, b, dy, gs, rfl, rfl, ha, hb, q⟩ := h
  cases (show v = Value.ref a from rx)
  cases (show u = Value.ref b from ry)
  obtain ⟨ox, od, J⟩ := ins_at I ha
  obtain ⟨oy, oe, J'⟩ := ins_at I hb
  obtain ⟨m, hF⟩ := I.fr
  refine PySem.W.binop_K (op := op) hF I.ok.mod.kin J J'.type hc hs hf ?_
  refine wpAny_mono (wpAny_call (run_fnR (us := [.ref a, .ref b]) (vs := [.ref a, .ref b]) F hr hx I (.cons rfl (.cons rfl .nil)) q)) (fun w s' z => ?_) fun _ _ x => x
  obtain ⟨z', H', I', rz, qz⟩ := z
  exact SlX.cmpback rz ⟨z', H', I', rz, qz⟩
/-- y in x, by __contains__ (its answer a bool) -/
def rIn (C : Addr) (sp : Sp) (E : XK) (neg : Bool) : R2 := fun y x H Q => ∃ a dx fs, x = .ref a ∧ H a = some (.ins C dx fs) ∧ sp [x, y] H (fun z H' => ∃ c, z = .bl c ∧ Q (.bl (if neg then !c else c)) H') E
theorem op_in (hs : PySem.W.findIn X.K (.ref C) "__contains__" = some (some (.ref g))) (hf : PySem.W.isFn X.K (.ref g) = true) (F : FnR X.prog X.w X.K X.mg X.base CX n g sp)
    (hr : Room n X.A) (hx : Passes CX X E) : OpR X (compareOp .In) (rIn C sp E false) := by
  intro pins s σ H y x u v Q I ry rx h
  obtain ⟨a, dx, fs, rfl, ha, q⟩ := h
  cases (show v = Value.ref a from rx)
  obtain ⟨ox, od, J⟩ := ins_at I ha
  obtain ⟨m, hF⟩ := I.fr
  refine PySem.W.in_K hF I.ok.mod.kin J hs hf ?_
  refine wpAny_mono (wpAny_call (run_fnR (us := [.ref a, u]) (vs := [.ref a, y]) F hr hx I (.cons rfl (.cons ry .nil)) q)) (fun w s' z => ?_) fun _ _ x => x
  obtain ⟨z', H', I', rz, c, rfl, qz⟩ := z
  cases (show w = Value.bool c from rz)
  exact wpAny_truthy_bool ⟨.bl c, H', I', rfl, qz⟩
theorem op_notIn (hs : PySem.W.findIn X.K (.ref C) "__contains__" = some (some (.ref g))) (hf : PySem.W.isFn X.K (.ref g) = true) (F : FnR X.prog X.w X.K X.mg X.base CX n g sp)
    (hr : Room n X.A) (hx : Passes CX X E) : OpR X (compareOp .NotIn) (rIn C sp E true) := by
  intro pins s σ H y x u v Q I ry rx h
  obtain ⟨a, dx, fs, rfl, ha, q⟩ := h
  cases (show v = Value.ref a from rx)
  obtain ⟨ox, od, J⟩ := ins_at I ha
  obtain ⟨m, hF⟩ := I.fr
  refine PySem.W.notIn_K hF I.ok.mod.kin J hs hf ?_
  refine wpAny_mono (wpAny_call (run_fnR (us := [.ref a, u]) (vs := [.ref a, y]) F hr hx I (.cons rfl (.cons ry .nil)) q)) (fun w s' z => ?_) fun _ _ x => x
  obtain ⟨z', H', I', rz, c, rfl, qz⟩ := z
  cases (show w = Value.bool c from rz)
  exact wpAny_truthy_bool ⟨.bl (!c), H', I', rfl, qz⟩
/-- len(x), by __len__ -/
def rLen (C : Addr) (sp : Sp) (E : XK) : List V → Hp → VK → Prop := fun xs H Q => ∃ a dx fs, xs = [V.ref a] ∧ H a = some (.ins C dx fs) ∧ sp [.ref a] H (fun z H' => ∃ i : Int, z = .int i ∧ 0 ≤ i ∧ i < 2 ^ 63 ∧ Q (.int i) H') E
theorem call_len (hs : PySem.W.findIn X.K (.ref C) "__len__" = some (some (.ref g))) (hf : PySem.W.isFn X.K (.ref g) = true) (F : FnR X.prog X.w X.K X.mg X.base CX n g sp)
    (hr : Room (n + 1) X.A) (hx : Passes CX X E) : CallR X (.builtin "len") (rLen C sp E) := by
  intro pins s σ H xs us Q I r h
  obtain ⟨a, dx, fs, rfl, ha, q⟩ := h
  obtain ⟨u, rfl, ru⟩ := r.one
  cases (show u = Value.ref a from ru)
  obtain ⟨ox, od, J⟩ := ins_at I ha
  obtain ⟨m, hF⟩ := I.fr
  refine PySem.W.len_K hF I.ok.mod.kin J hs hf (wpAny_mono (wpAny_call (SlX.run_at (us := [.ref a]) (ws := [.ref a]) F hr.in1 I.env0.in1 hx I (.cons rfl .nil) q)) (fun w s' z => ?_) fun _ _ x => x)
  obtain ⟨z', H', I', rz, i, rfl, h0, h1, qz⟩ := z
  obtain ⟨t, e⟩ := (show ∃ t, w = Value.int i t from rz)
  cases e
  exact ⟨⟨h0, h1⟩, .int i, H', I'.tok _, ⟨_, rfl⟩, qz⟩
end
end Ow

/-! x op y by the own def of x's class, y of a built-in type; a call that may raise in a try whose suite asks only its own name. -/
namespace Po
open PySem PySem.Spec PyProof.Rows L2
theorem passL {X : Cx} {W : WX} (n : Nat) (hn : X.N.length = n) (tk : Takes X W) : Passes (L2.CX X.prog X.w) X (fun cls d H => ∀ σ : L2.St, σ.length = n → W cls d σ H) :=
  fun _ σ _ _ e s' I c => tk e s' (XE.of_call I (fun _ _ _ h => h σ (I.len.trans hn)) c)
/-- what is asked of the type T on the right -/
structure RT (K : PySem.W.Frag) (op : Operator) (C : Addr) (T : String) : Prop where
  ex : ∃ fo ro : Option Value, PySem.W.findIn K (.type T) (PySem.dunder op.info.2) = some fo ∧ PySem.W.findIn K (.type T) (dunderR op.info.2) = some ro
  sub : PySem.W.subIn K (.type T) (.ref C) = some false
/-- and of the class on the left -/
structure LT (K : PySem.W.Frag) (op : Operator) (C : Addr) : Prop where
  rc : ∃ rc : Option Value, PySem.W.findIn K (.ref C) (dunderR op.info.2) = some rc ∧ (rc = none ∨ ∃ g : Addr, rc = some (.ref g))
  sf : PySem.W.selfFirst K C = true
section
open PySem.W
variable {prog : Program} {w : World} {A : Around} {E : Value → Shared → Prop} {s : Shared} {K : Frag} {x C L f : Addr} {h₀ : Heap} {m : Str → Option Value} {ox : Obj} {od : Option Obj} {T : String}
theorem bin_at {op : Operator} {b : Value} {Q : Value → Shared → Prop} (F : Fr h₀ L s.heap m) (kin : K.In h₀) (I : InstAt s.heap x ox C od) (hb : Looks (model prog w) s.heap (typeOf b) (.type T)) (lt : LT K op C)
    (own : findIn K (.ref C) (PySem.dunder op.info.2) = some (some (.ref f))) (fn : isFn K (.ref f) = true) (rt : RT K op C T)
    (go : wpAny (model prog w) A (call (.ref f) [.ref x, b]) (PySem.W.CmpBack Q) E s) : wpAny (model prog w) A (binaryOp op (.ref x) b) Q E s := by
  have kn := kin.keeps F.keep
  obtain ⟨⟨fo, ro, t1, t2⟩, apart⟩ := rt
  obtain ⟨⟨rc, back, bk⟩, first⟩ := lt
  obtain ⟨cd, rest, ecd, emro⟩ := ksp_first first
  rcases hop : op.info with ⟨sg, nm⟩
  rw [hop] at own back t1 t2
  dsimp only at own back t1 t2
  have tried := ksp_try kn I own fn go
  obtain ⟨hp, gn, dr, tks, oss⟩ := s
  have k1 : Looks (model prog w) hp (typeOf (Value.ref x)) (Value.ref C) := I.type
  have k2 : Looks (model prog w) hp (typeOf b) (Value.type T) := hb
  have k3 : Looks (model prog w) hp (fillsNumberSlot (Value.ref C) nm) true := fills_K kn ecd emro own
  have k4 := ksp_fillsT (M := model prog w) kn t1 t2
  have k5 : Looks (model prog w) hp (isSubtype (Value.type T) (Value.ref C)) false := looks_subIn kn apart
  have k6 : Looks (model prog w) hp (numberSlotInPython (Value.ref C) nm) true := ksp_inPy kn own back bk
  have k7 : Looks (model prog w) hp (numberSlotInPython (Value.type T) nm) false := Looks.of_pure rfl
  have k8 : Looks (model prog w) hp (typeLookup (Value.type T) (dunderR nm)) ro := looks_findIn kn t2
  revert k4
  generalize ((fo.isSome && !isSeqSlot fo) || (ro.isSome && !isSeqSlot ro)) = rgt
  intro k4
  have apart2 : (Value.ref C == Value.type T) = false := by
    cases q : (Value.ref C == Value.type T) with
    | false => rfl
    | true => cases beq_iff_eq.mp q
  simp only [binaryOp, hop]
  apply wpAny_holding
  apply wpAny_bind
  unfold binaryOp1
  refine wpAny_bind (k1.at ?_)
  refine wpAny_bind (k2.at ?_)
  refine wpAny_bind (k3.at ?_)
  simp only [apart2, Bool.false_eq_true, if_false]
  cases rgt <;>
    (ksp_lk
     refine wpAny_mono tried (fun r s' z => ?_) fun _ _ e => e
     obtain ⟨v, rfl, hq⟩ := z
     ksp_lk
     exact hq)
end
section
variable {X : Cx} {CX : CXT} {C g : Addr} {n : Nat} {sp : Sp} {E : XK}
/-- x op y by the own def of x's class at C; y of a built-in type -/
def rBinT (K : PySem.W.Frag) (op : Operator) (C : Addr) (sp : Sp) (E : XK) : R2 := fun x y H Q => ∃ a dx fs T, x = .ref a ∧ H a = some (.ins C dx fs) ∧ TyX K H y (.type T) ∧ RT K op C T ∧ sp [x, y] H Q E
theorem op_binI {op : Operator} (lt : LT X.K op C) (hs : PySem.W.findIn X.K (.ref C) (PySem.dunder op.info.2) = some (some (.ref g))) (hf : PySem.W.isFn X.K (.ref g) = true) (F : FnR X.prog X.w X.K X.mg X.base CX n g sp)
    (hr : Room n X.A) (hx : Passes CX X E) : OpR X (binaryOp op) (rBinT X.K op C sp E) := by
  intro pins s σ H x y v u Q I rx ry h
  obtain ⟨a, dx, fs, T, rfl, ha, ty, rt, q⟩ := h
  cases (show v = Value.ref a from rx)
  obtain ⟨ox, od, J⟩ := Ow.ins_at I ha
  obtain ⟨P, k, hp, _⟩ := kit_of I ry ty
  obtain ⟨m, hF⟩ := I.fr
  refine bin_at hF I.ok.mod.kin J (k.ty _ _ I.kIn hp) lt hs hf rt ?_
  refine wpAny_mono (wpAny_call (run_fnR (us := [.ref a, u]) (vs := [.ref a, y]) F hr hx I (.cons rfl (.cons ry .nil)) q)) (fun w s' z => ?_) fun _ _ x => x
  obtain ⟨z', H', I', rz, qz⟩ := z
  exact SlX.cmpback rz ⟨z', H', I', rz, qz⟩
end
end Po

/-! Comprehensions whose items draw from the bag, told one by one. -/
namespace Lm
open PySem L2 Wm Dv
theorem kt_but {K : PySem.W.Frag} {H H' : Hp} {b : Addr} {n : Nat} (bag : Bag H b n) (e : But b H H') : Kt K H H' := fun a xs q => by
  obtain ⟨c, x, k, m, z, ns, hb, _⟩ := bag
  have ne : ∀ {u : HO}, H a = some u → (∀ y, u ≠ .lst y) → H' a = some u := fun {u} h n => e.keep _ _ (fun z => by subst z; rw [hb] at h; exact n _ (Option.some.inj h).symm) h
  rcases q with (q | ⟨ob, q⟩) | q
  · exact .inl (.inl (ne q fun y z => by cases z))
  · exact .inl (.inr ⟨ob, ne q fun y z => by cases z⟩)
  · exact .inr q
theorem bag_off {H : Hp} {b p : Addr} {n : Nat} (bag : Bag H b n) (h : H p = none) : p ≠ b := fun e => by
  obtain ⟨_, _, _, _, _, _, hb, _⟩ := bag
  rw [e, hb] at h
  cases h
theorem lc_bag {K : PySem.W.Frag} {J : It} {n : Nat} {G : Hp → Prop} {xs : List V} (w : Walk J n G (YAt xs)) {g : TG} {te : TE} {vs : List Nat} {σ : L2.St} {H1 : Hp} {D : Addr} {Qd : Hp → Prop} {b : Addr} {m c : Nat} (R : Nat → V → Hp → Prop)
    (mono : ∀ i y H H', R i y H → Kt K H H' → R i y H') (hD : H1 D = none) (bag : Bag H1 b m) (hn : n ≤ 1000) (hG : ∀ H', But b H1 H' → G H')
    (hs : ∀ i x H', i < n → xs[i]? = some x → But b H1 H' → Bag H' b (m + c * i) → ∀ (Q : V → Hp → Prop) (Z : Hp → Prop), (∀ y H4, But b H' H4 → Bag H4 b (m + c * (i + 1)) → R i y H4 → Q y H4) → g x (wipe σ vs) H' fun σ2 H2 => wipe σ2 vs = wipe σ vs ∧ tYes σ2 H2 fun b H3 => if b = true then te σ2 H3 Q else Z H3)
    (hd : ∀ H ys, But b H1 H → Bag H b (m + c * n) → H D = some (.lst ys) → ys.length = n → (∀ (i : Nat) y, ys[i]? = some y → R i y H) → Qd H) :
    ∃ W : Nat → Nat → Hp → Prop, (∃ m, W 0 m (upd H1 D (.lst []))) ∧ ∀ i m H, W i m H →
      (J.stop i H ∧ Qd H) ∨ (J.go i H ∧ ∃ Nx : Hp → Prop, (∀ H', Nx H' → ∃ m', m' < m ∧ W (i + 1) m' H') ∧ ∀ x H', J.yld i H x H' → g x (wipe σ vs) H' fun σ2 H2 => wipe σ2 vs = wipe σ vs ∧ tYes σ2 H2 fun b H3 =>
        if b = true then te σ2 H3 fun y H4 => ∃ acc, H4 D = some (.lst acc) ∧ acc.length < sizeLine ∧ Nx (upd H4 D (.lst (acc ++ [y]))) else Nx H3) := by
  have db := bag_off bag hD
  refine lc_it (tt := tYes) w (fun i H => But b H1 H ∧ Bag H b (m + c * i) ∧ ∃ ys : List V, ys.length = i ∧ H D = some (.lst ys) ∧ ∀ j y, ys[j]? = some y → R j y H)
    ⟨But.of (same_new hD), (bag.keep (same_new hD)).mono (by omega), [], rfl, upd_same, fun (j : Nat) (y : V) e => by simp at e⟩ (fun i H _ h => hG H h.1) (fun i x H H' hi hP hY => ?_) (fun H hP => ?_)
  · obtain ⟨bt, bg, ys, el, hy, hR⟩ := hP
    obtain ⟨rfl, hx⟩ := hY
    refine hs i x H' hi hx bt bg _ _ (fun y H4 b4 g4 r4 => ?_)
    have hy4 := b4.keep _ _ db hy
    have k5 : Kt K H4 (upd H4 D (.lst (ys ++ [y]))) := Kt.lst hy4
    refine ⟨ys, hy4, by rw [el]; exact small1000 (by omega), (bt.trans b4).put hD, Bag.put bag hD (bt.trans b4) g4, ys ++ [y], by rw [List.length_append, el]; rfl, upd_same, fun j z hz => ?_⟩
    by_cases lj : j < ys.length
    · rw [List.getElem?_append_left lj] at hz
      exact mono _ _ _ _ (hR j z hz) ((kt_but bg b4).trans k5)
    · rw [List.getElem?_append_right (by omega)] at hz
      have e0 : j - ys.length = 0 := by
        by_cases q : j - ys.length = 0
        · exact q
        · rw [List.getElem?_eq_none (by rw [List.length_singleton]; omega)] at hz
          cases hz
      rw [e0] at hz
      have ez : y = z := by simpa using hz
      have ej : j = i := by omega
      subst ez ej
      exact mono _ _ _ _ r4 k5
  · obtain ⟨bt, bg, ys, el, hy, hR⟩ := hP
    exact hd H ys bt bg hy el hR
end Lm

/-! Comprehensions whose items are told one by one: over any walk, with facts that live on all but the list that is made. -/
namespace Lm
open PySem L2 Wm Dv
/-- what stood stands, but for D -/
def Bar (D : Addr) (H H' : Hp) : Prop := ∀ a o, a ≠ D → H a = some o → H' a = some o
theorem Bar.kt {K : PySem.W.Frag} {D : Addr} {H H' : Hp} {ys : List V} (hy : H D = some (.lst ys)) (e : Bar D H H') : Kt K H H' := fun a xs q => by
  have ne : ∀ {u : HO}, H a = some u → (∀ y, u ≠ .lst y) → H' a = some u := fun {u} h n => e _ _ (fun z => by subst z; rw [hy] at h; exact n _ (Option.some.inj h).symm) h
  rcases q with (q | ⟨ob, q⟩) | q
  · exact .inl (.inl (ne q fun y z => by cases z))
  · exact .inl (.inr ⟨ob, ne q fun y z => by cases z⟩)
  · exact .inr q
theorem lc_any {J : It} {n : Nat} {G : Hp → Prop} {Y : Nat → Hp → V → Hp → Prop} (w : Walk J n G Y) {g : TG} {te : TE} {vs : List Nat} {σ : L2.St} {H1 : Hp} {D : Addr} {Qd : Hp → Prop} (R : Nat → V → Hp → Prop)
    (mono : ∀ i y H H' ys, R i y H → H D = some (.lst ys) → Bar D H H' → R i y H') (hY : ∀ i H x H', Y i H x H' → Same H H') (hD : H1 D = none) (hn : n ≤ 1000) (hG : ∀ H', Same H1 H' → G H')
    (hs : ∀ i x H H', i < n → Same H1 H → (∃ ys, H D = some (.lst ys)) → Y i H x H' → ∀ (Q : V → Hp → Prop) (Z : Hp → Prop), (∀ y H4, Same H' H4 → R i y H4 → Q y H4) → g x (wipe σ vs) H' fun σ2 H2 => wipe σ2 vs = wipe σ vs ∧ tYes σ2 H2 fun b H3 => if b = true then te σ2 H3 Q else Z H3)
    (hd : ∀ H ys, Same H1 H → H D = some (.lst ys) → ys.length = n → (∀ (i : Nat) y, ys[i]? = some y → R i y H) → Qd H) :
    ∃ W : Nat → Nat → Hp → Prop, (∃ m, W 0 m (upd H1 D (.lst []))) ∧ ∀ i m H, W i m H →
      (J.stop i H ∧ Qd H) ∨ (J.go i H ∧ ∃ Nx : Hp → Prop, (∀ H', Nx H' → ∃ m', m' < m ∧ W (i + 1) m' H') ∧ ∀ x H', J.yld i H x H' → g x (wipe σ vs) H' fun σ2 H2 => wipe σ2 vs = wipe σ vs ∧ tYes σ2 H2 fun b H3 =>
        if b = true then te σ2 H3 fun y H4 => ∃ acc, H4 D = some (.lst acc) ∧ acc.length < sizeLine ∧ Nx (upd H4 D (.lst (acc ++ [y]))) else Nx H3) := by
  refine lc_it (tt := tYes) w (fun i H => Same H1 H ∧ ∃ ys : List V, ys.length = i ∧ H D = some (.lst ys) ∧ ∀ j y, ys[j]? = some y → R j y H) ⟨same_new hD, [], rfl, upd_same, fun (j : Nat) (y : V) e => by simp at e⟩ (fun i H _ h => hG H h.1) (fun i x H H' hi hP y => ?_) (fun H hP => ?_)
  · obtain ⟨sm, ys, el, hy, hR⟩ := hP
    have sy := hY _ _ _ _ y
    refine hs i x H H' hi sm ⟨ys, hy⟩ y _ _ (fun y H4 s4 r4 => ?_)
    have s5 := sy.trans s4
    have b5 : Bar D H4 (upd H4 D (.lst (ys ++ [y]))) := fun a o n e => by
      rw [upd_ne n]
      exact e
    refine ⟨ys, s5 _ _ hy, by rw [el]; exact small1000 (by omega), same_mut (sm.trans s5) hD, ys ++ [y], by rw [List.length_append, el]; rfl, upd_same, fun j z hz => ?_⟩
    by_cases lj : j < ys.length
    · rw [List.getElem?_append_left lj] at hz
      exact mono _ _ _ _ _ (mono _ _ _ _ _ (hR j z hz) hy fun a o _ e => s5 _ _ e) (s5 _ _ hy) b5
    · rw [List.getElem?_append_right (by omega)] at hz
      have e0 : j - ys.length = 0 := by
        by_cases q : j - ys.length = 0
        · exact q
        · rw [List.getElem?_eq_none (by rw [List.length_singleton]; omega)] at hz
          cases hz
      rw [e0] at hz
      have ez : y = z := by simpa using hz
      have ej : j = i := by omega
      subst ez ej
      exact mono _ _ _ _ _ r4 (s5 _ _ hy) b5
  · obtain ⟨sm, ys, el, hy, hR⟩ := hP
    exact hd H ys sm hy el hR
/-- the same, the items apart from one another -/
theorem lc_apart {J : It} {n : Nat} {G : Hp → Prop} {Y : Nat → Hp → V → Hp → Prop} (w : Walk J n G Y) {g : TG} {te : TE} {vs : List Nat} {σ : L2.St} {H1 : Hp} {D : Addr} {Qd : Hp → Prop} (R : Nat → V → Hp → Prop) (N : V → V → Prop)
    (mono : ∀ i y H H' ys, R i y H → H D = some (.lst ys) → Bar D H H' → R i y H') (hY : ∀ i H x H', Y i H x H' → Same H H') (hD : H1 D = none) (hn : n ≤ 1000) (hG : ∀ H', Same H1 H' → G H')
    (hs : ∀ i x H H', i < n → Same H1 H → (∃ ys, H D = some (.lst ys)) → Y i H x H' → ∀ ys : List V, (∀ (j : Nat) z, ys[j]? = some z → R j z H) → ∀ (Q : V → Hp → Prop) (Z : Hp → Prop), (∀ y H4, Same H' H4 → R i y H4 → (∀ z ∈ ys, N z y) → Q y H4) → g x (wipe σ vs) H' fun σ2 H2 => wipe σ2 vs = wipe σ vs ∧ tYes σ2 H2 fun b H3 => if b = true then te σ2 H3 Q else Z H3)
    (hd : ∀ H ys, Same H1 H → H D = some (.lst ys) → ys.length = n → (∀ (i : Nat) y, ys[i]? = some y → R i y H) → ys.Pairwise N → Qd H) :
    ∃ W : Nat → Nat → Hp → Prop, (∃ m, W 0 m (upd H1 D (.lst []))) ∧ ∀ i m H, W i m H →
      (J.stop i H ∧ Qd H) ∨ (J.go i H ∧ ∃ Nx : Hp → Prop, (∀ H', Nx H' → ∃ m', m' < m ∧ W (i + 1) m' H') ∧ ∀ x H', J.yld i H x H' → g x (wipe σ vs) H' fun σ2 H2 => wipe σ2 vs = wipe σ vs ∧ tYes σ2 H2 fun b H3 =>
        if b = true then te σ2 H3 fun y H4 => ∃ acc, H4 D = some (.lst acc) ∧ acc.length < sizeLine ∧ Nx (upd H4 D (.lst (acc ++ [y]))) else Nx H3) := by
  refine lc_it (tt := tYes) w (fun i H => Same H1 H ∧ ∃ ys : List V, ys.length = i ∧ H D = some (.lst ys) ∧ (∀ j y, ys[j]? = some y → R j y H) ∧ ys.Pairwise N) ⟨same_new hD, [], rfl, upd_same, (fun (j : Nat) (y : V) e => by simp at e), .nil⟩ (fun i H _ h => hG H h.1) (fun i x H H' hi hP y => ?_) (fun H hP => ?_)
  · obtain ⟨sm, ys, el, hy, hR, hN⟩ := hP
    have sy := hY _ _ _ _ y
    refine hs i x H H' hi sm ⟨ys, hy⟩ y ys hR _ _ (fun y H4 s4 r4 n4 => ?_)
    have s5 := sy.trans s4
    have b5 : Bar D H4 (upd H4 D (.lst (ys ++ [y]))) := fun a o n e => by
      rw [upd_ne n]
      exact e
    refine ⟨ys, s5 _ _ hy, by rw [el]; exact small1000 (by omega), same_mut (sm.trans s5) hD, ys ++ [y], by rw [List.length_append, el]; rfl, upd_same, fun j z hz => ?_, List.pairwise_append.mpr ⟨hN, List.pairwise_singleton _ _, fun a ma c mc => by rw [List.mem_singleton.mp mc]; exact n4 a ma⟩⟩
    by_cases lj : j < ys.length
    · rw [List.getElem?_append_left lj] at hz
      exact mono _ _ _ _ _ (mono _ _ _ _ _ (hR j z hz) hy fun a o _ e => s5 _ _ e) (s5 _ _ hy) b5
    · rw [List.getElem?_append_right (by omega)] at hz
      have e0 : j - ys.length = 0 := by
        by_cases q : j - ys.length = 0
        · exact q
        · rw [List.getElem?_eq_none (by rw [List.length_singleton]; omega)] at hz
          cases hz
      rw [e0] at hz
      have ez : y = z := by simpa using hz
      have ej : j = i := by omega
      subst ez ej
      exact mono _ _ _ _ _ r4 (s5 _ _ hy) b5
  · obtain ⟨sm, ys, el, hy, hR, hN⟩ := hP
    exact hd H ys sm hy el hR hN
theorem same_at {xs : List V} {i : Nat} {H H' : Hp} {x : V} (h : YAt xs i H x H') : Same H H' := by
  obtain ⟨rfl, _⟩ := h
  exact Same.refl _
theorem same_pair {f g : Nat → Option V} {i : Nat} {H H' : Hp} {x : V} (h : YPair f g i H x H') : Same H H' := by
  obtain ⟨T, a, b, rfl, hT, rfl, _⟩ := h
  exact same_new hT
end Lm
namespace Kx
open PySem L2
def rLst (K : PySem.W.Frag) : List V → Hp → VK → Prop := fun xs H Q => ∃ p ys, xs = [.ref p] ∧ (SqL K H p ys ∨ SqT K H p ys) ∧ ∀ l, H l = none → Q (.ref l) (upd H l (.lst ys))
end Kx

/-! A call by keywords that may raise, its exception's part told by the state at the call. -/
namespace Kw
open PySem PySem.Spec PyProof.Rows L2
section
variable {X : Cx} {CX : CXT} {k n : Nat} {f : Addr} {fd : FuncData} {ps ks : List Str} {sp : Sp} {E : L2.St → XK} {x : Str} {e : Expr} {es : List Expr} {kws : List Keyword} {t tk : TA} {p pos : Pos} {g : List Value → List Value → List Value} {gV : List V → List V → List V}
theorem run_fnNS {pins : List (Addr × Obj)} {σ : L2.St} {H : Hp} {s : Shared} {Q : VK} {us ws : List Value} {vs zs : List V} (F : FnOk X.prog X.w X.K X.mg X.base CX k f fd ps sp) (hr : Room k X.A) (hb : KBn X.K fd ps n ks g gV) (hx : PassesAt CX X σ (E σ))
    (I : Inv X pins σ H s) (r : Vals vs us) (rz : Vals zs ws) (l1 : vs.length = n) (l2 : zs.length = ks.length) (h : sp (gV vs zs) H Q (E σ)) : wpAny (model X.prog X.w) X.A (call (.ref f) us (ks.zip ws)) (EP X pins σ Q) X.xe s := by
  have r2 := hb.rel r rz
  refine wpAny_call (codeAny_mono (F.run X.A X.stack s H ⟨us, ks.zip ws⟩ (g us ws) (gV vs zs) Q (E σ) hr I.env0 (hb.to s us ws I.kIn (r.length.symm.trans l1) (rz.length.symm.trans l2)) r2 h) fun r s' hq => ?_)
  cases r with
  | error e => exact hx pins H s e s' I hq
  | ok fl =>
    cases fl with
    | ret u => exact I.after hq
    | next => exact False.elim hq
    | brk => exact False.elim hq
    | cont => exact False.elim hq
def tCallNS (n m : Nat) (sp : Sp) (gV : List V → List V → List V) (E : L2.St → XK) (t tk : TA) : TE := fun σ H Q => t σ H fun vs H1 => tk σ H1 fun zs H2 => vs.length = n ∧ zs.length = m ∧ sp (gV vs zs) H2 Q (E σ)
theorem pe_callNS (F : FnOk X.prog X.w X.K X.mg X.base CX k f fd ps sp) (hr : Room k X.A) (hg : Gl X x) (hm : X.mg x = some (.ref f)) (hk : PySem.W.keepIn X.K (.ref f) = true) (hb : KBn X.K fd ps n ks g gV) (hx : ∀ σ, PassesAt CX X σ (E σ))
    (ha : PA X (e :: es) t) (hkw : PK X kws tk) (hall : (backToKw pos (keywordEach kws X.env)).all (·.1.isSome) = true := by rfl) (hks : (backToKw pos (keywordEach kws X.env)).filterMap (·.1) = ks := by rfl)
    (hdb : (x == ("__debug__" : Str)) = false := by decide) (he : starEach (e :: es) X.env = (false, eval e X.env) :: starEach es X.env := by rfl)
    (hpl : ((backTo pos (starEach (e :: es) X.env)).any (·.1) || (backToKw pos (keywordEach kws X.env)).any (·.1.isNone)) = false := by rfl) :
    PE X (.Call (.Name x p) (e :: es) kws pos) (tCallNS n ks.length sp gV E t tk) := by
  refine ⟨fun pins s σ H Q I h => ?_⟩
  refine wpAny_Call_Name_kw (ld_glob I hg hm ?_ hdb)
  refine PySem.W.callWith_KW (h₀ := X.base) I.ok.mod.kin hk hall (thn (ha.run pos pins s σ H _ I h) fun us s1 ⟨vs, H1, I1, r, q⟩ => ?_) hpl he
  refine thn (hkw.run pos pins s1 σ H1 _ I1 q) fun ws s2 ⟨zs, H2, I2, rz, l1, l2, q2⟩ => ⟨I2.kIn, ?_⟩
  rw [hks]
  exact run_fnNS F hr hb (hx σ) I2 r rz l1 l2 q2
end
end Kw
/-! Making an object by C(e, .., k = v, ..) within a try: what is raised is wished for at the slots as they stand. -/
namespace Kw
open PySem PySem.Spec PyProof.Rows L2
section
variable {X : Cx} {CX : CXT} {k n : Nat} {f C : Addr} {fd : FuncData} {ps ks : List Str} {sp : Sp} {E : L2.St → XK} {x : Str} {e : Expr} {es : List Expr} {kws : List Keyword} {t tk : TA} {p pos : Pos} {g : List Value → List Value → List Value} {gV : List V → List V → List V}
def tMakeKS (C : Addr) (n m : Nat) (sp : Sp) (gV : List V → List V → List V) (E : L2.St → XK) (t tk : TA) : TE := fun σ H Q => t σ H fun vs H1 => tk σ H1 fun zs H2 => vs.length = n ∧ zs.length = m ∧
  ∀ x dx, H2 x = none → H2 dx = none → dx ≠ x → sp (gV (.ref x :: vs) zs) (upd (upd H2 dx (.own x)) x (.ins C dx [])) (fun v H3 => v = .non ∧ Q (.ref x) H3) (E σ)
theorem pe_makeKS (M : Mk X.K C f) (F : FnOk X.prog X.w X.K X.mg X.base CX k f fd ps sp) (hr : Room (k + 1) X.A) (hg : Gl X x) (hm : X.mg x = some (.ref C)) (hb : KBn X.K fd ps (n + 1) ks g gV) (hx : ∀ σ, PassesAt CX X σ (E σ)) (ha : PA X (e :: es) t) (hkw : PK X kws tk)
    (hall : (backToKw pos (keywordEach kws X.env)).all (·.1.isSome) = true := by rfl) (hks : (backToKw pos (keywordEach kws X.env)).filterMap (·.1) = ks := by rfl) (hdb : (x == ("__debug__" : Str)) = false := by decide)
    (he : starEach (e :: es) X.env = (false, eval e X.env) :: starEach es X.env := by rfl) (hpl : ((backTo pos (starEach (e :: es) X.env)).any (·.1) || (backToKw pos (keywordEach kws X.env)).any (·.1.isNone)) = false := by rfl) :
    PE X (.Call (.Name x p) (e :: es) kws pos) (tMakeKS C n ks.length sp gV E t tk) := by
  refine ⟨fun pins s σ H Q I h => ?_⟩
  refine wpAny_Call_Name_kw (ld_glob I hg hm ?_ hdb)
  refine PySem.W.callWith_KW (h₀ := X.base) I.ok.mod.kin M.kp hall (thn (ha.run pos pins s σ H _ I h) fun us s1 w => ?_) hpl he
  obtain ⟨vs, H1, I1, r, q⟩ := w
  refine thn (hkw.run pos pins s1 σ H1 _ I1 q) fun ws s2 w2 => ?_
  obtain ⟨zs, H2, J, rz, l1, l2, q2⟩ := w2
  refine ⟨J.kIn, ?_⟩
  rw [hks]
  have go := q2 (s2.heap.objs.size + 1) s2.heap.objs.size (J.hok.fresh (Nat.le_succ _)) (J.hok.fresh (Nat.le_refl _)) (Nat.ne_of_lt (Nat.lt_succ_self _))
  have J2 := Inv.made (C := C) J
  have r1 : Vals (V.ref (s2.heap.objs.size + 1) :: vs) (Value.ref (s2.heap.objs.size + 1) :: us) := .cons rfl r
  have n1 : (Value.ref (s2.heap.objs.size + 1) :: us).length = n + 1 := r1.length.symm.trans (congrArg (· + 1) l1)
  have ran := F.run _ X.stack _ _ ⟨Value.ref (s2.heap.objs.size + 1) :: us, ks.zip ws⟩ _ _ _ (E σ) (hr.make C us (ks.zip ws)) (J2.env0.make C us (ks.zip ws)) (hb.to _ _ ws J2.kIn n1 (rz.length.symm.trans l2)) (hb.rel r1 rz) go
  refine wpAny_call (make_map (f := f) J.kIn M.makes M.init (beq_iff_eq.mp M.fn) (codeAny_mono ran fun z t2 hz => ?_))
  match z, hz with
  | .error _, hz => exact hx σ pins _ _ _ _ J2 hz
  | .ok (.ret _), hz =>
    obtain ⟨_, _, J3, rv, ev, q3⟩ := J2.after hz
    subst ev
    exact ⟨rv, V.ref (s2.heap.objs.size + 1), _, J3, rfl, q3⟩
  | .ok .next, hz => exact hz.elim
  | .ok .brk, hz => exact hz.elim
  | .ok .cont, hz => exact hz.elim
end
section
variable {X : Cx} {CX : CXT} {k n : Nat} {f C : Addr} {fd : FuncData} {ps ks : List Str} {sp : Sp} {E : L2.St → XK} {m : Str} {pos apos : Pos} {o : Expr} {kws : List Keyword} {ta : TE} {tk : TA} {g : List Value → List Value → List Value} {gV : List V → List V → List V} {pl : Sem Bool}
def tMethNS (C : Addr) (m : Str) (n : Nat) (sp : Sp) (gV : List V → List V → List V) (E : L2.St → XK) (ta : TE) (tk : TA) : TE := fun σ H Q => ta σ H fun x H1 => ∃ a dx fs, x = .ref a ∧ H1 a = some (.ins C dx fs) ∧ fs.lookup m = none ∧
  tk σ H1 fun zs H2 => zs.length = n ∧ sp (gV [x] zs) H2 Q (E σ)
theorem pe_methNS (ho : PE X o ta) (c : Cls X.K C) (hm : Meth X.K C m f) (F : FnOk X.prog X.w X.K X.mg X.base CX k f fd ps sp) (hr : Room k X.A) (hb : KBn X.K fd ps 1 ks g gV) (hx : ∀ σ, PassesAt CX X σ (E σ)) (hk : PK X kws tk)
    (h1 : (backToKw pos (keywordEach kws X.env)).all (·.1.isSome) = true := by rfl) (h2 : (backToKw pos (keywordEach kws X.env)).filterMap (·.1) = ks := by rfl)
    (h3 : ((backTo pos (starEach [] X.env)).any (·.1) || (backToKw pos (keywordEach kws X.env)).any (·.1.isNone)) = false := by rfl)
    (h4 : eval (.Call (.Attribute o m apos) [] kws pos) X.env = (do
      let v ← eval o X.env
      standAt apos.atName
      let (a, b) ← holding [v] (getMethod v m pl)
      callWith pos a b (backTo pos (starEach [] X.env)) (backToKw pos (keywordEach kws X.env))) := by rfl) :
    PE X (.Call (.Attribute o m apos) [] kws pos) (tMethNS C m ks.length sp gV E ta tk) := by
  constructor
  intro pins s σ H Q I h
  refine PySem.W.methodCall_KW (pl := pl) (thn (ho.run pins s σ H _ I h) fun u s1 w => ?_) h4
  obtain ⟨x, H1, I1, rx, a, dx, fs, ex, ea, l, q⟩ := w
  subst ex
  cases (show u = Value.ref a from rx)
  refine getmeth_ok I1 ea c hm l ?_
  refine PySem.W.callWith_KW0 (first := [.ref a]) (h₀ := X.base) I.ok.mod.kin hm.kp h1 (thn (hk.run pos pins s1 σ H1 _ I1 q) fun ws s2 w2 => ?_) h3
  obtain ⟨zs, H2, I2, rz, l2, q2⟩ := w2
  refine ⟨I2.kIn, ?_⟩
  rw [h2]
  exact run_fnNS (us := [.ref a]) (vs := [.ref a]) F hr hb (hx σ) I2 (.cons rfl .nil) rz rfl l2 q2
end
/-- in an except suite: the suite's K is the def's (else the clause's own promise would speak of the suite) -/
theorem pe_bmQ {X : Cx} {K : PySem.W.Frag} {e : Expr} {r : PySem.W.Frag → TE} (h : PE X e (r X.K)) (hk : X.K = K) : PE X e (r K) := hk ▸ h
end Kw

/-! x in a list or a tuple of data of any depth. -/
namespace Ind
open PySem PySem.Spec PyProof.Rows L2
def seqD (t : Bool) (ds : List PyData) : PyData := if t = true then .tuple ds else .list ds
def rInS (K : PySem.W.Frag) : R2 := fun x y H Q => ∃ (d : PyData) (ds : List PyData) (t : Bool), Dp K H x d ∧ Dp K H y (seqD t ds) ∧ d.canLay0 = true ∧ d.depth ≤ 60 ∧ PyData.canLayAll0 ds = true ∧ Q (.bl (ds.any fun z => PyData.eqv z d)) H
theorem op_inS {X : Cx} (hu : X.A.units + 65 < cLine) : OpR X (compareOp .In) (rInS X.K) := by
  intro pins s σ H x y v u Q I rx ry h
  obtain ⟨d, ds, t, hd, he, sd, dd, se, q⟩ := h
  obtain ⟨as, r1⟩ := Dp.reads I d x v hd rx
  have room : X.A.units + 1 + min (PyData.depthAll ds) d.depth < cLine := by
    have := Nat.min_le_right (PyData.depthAll ds) d.depth
    omega
  cases t with
  | true =>
    obtain ⟨bs, r2⟩ := Dp.reads I (.tuple ds) y u he ry
    exact SeqAt.in_tuple_reads r2 r1 se sd room ⟨.bl _, H, I, rfl, q⟩
  | false =>
    obtain ⟨bs, r2⟩ := Dp.reads I (.list ds) y u he ry
    exact SeqAt.in_list_reads r2 r1 se sd room ⟨.bl _, H, I, rfl, q⟩
theorem isD {K : PySem.W.Frag} {t : Bool} {H : Hp} {p : Addr} {xs : List V} {ds : List PyData} (h : Kd.Is K t H p xs) (g : DpAll K H xs ds) : Dp K H (.ref p) (seqD t ds) := by
  cases t with
  | true => exact .tup h g
  | false => exact .lst h g
theorem room65 {k : Nat} {A : Around} (r : Room k A) : A.units + 65 < cLine := by have := r.un; omega
end Ind
namespace Ind
open PySem PySem.Spec PyProof.Rows L2
def rNinS (K : PySem.W.Frag) : R2 := fun x y H Q => ∃ (d : PyData) (ds : List PyData) (t : Bool), Dp K H x d ∧ Dp K H y (seqD t ds) ∧ d.canLay0 = true ∧ d.depth ≤ 60 ∧ PyData.canLayAll0 ds = true ∧ Q (.bl (!ds.any fun z => PyData.eqv z d)) H
theorem op_ninS {X : Cx} (hu : X.A.units + 65 < cLine) : OpR X (compareOp .NotIn) (rNinS X.K) := by
  intro pins s σ H x y v u Q I rx ry h
  obtain ⟨d, ds, t, hd, he, sd, dd, se, q⟩ := h
  obtain ⟨as, r1⟩ := Dp.reads I d x v hd rx
  have room : X.A.units + 1 + min (PyData.depthAll ds) d.depth < cLine := by
    have := Nat.min_le_right (PyData.depthAll ds) d.depth
    omega
  cases t with
  | true =>
    obtain ⟨bs, r2⟩ := Dp.reads I (.tuple ds) y u he ry
    exact SeqAt.notIn_tuple_reads r2 r1 se sd room ⟨.bl _, H, I, rfl, q⟩
  | false =>
    obtain ⟨bs, r2⟩ := Dp.reads I (.list ds) y u he ry
    exact SeqAt.notIn_list_reads r2 r1 se sd room ⟨.bl _, H, I, rfl, q⟩
end Ind

/-! Data with lists and the dict {'a': 1}, whose lists and dicts keep off some addresses; lists laid off sys.modules; repr of a list of such. -/
namespace Dz
open PySem PySem.Spec PyProof.Rows L2 Dv Wm
section
variable {X : Cx} {es : List Expr} {pos : Pos} {t : TA}
def tLstZ (t : TA) : TE := fun σ H Q => t σ H fun xs H1 => xs.length ≤ sizeLine ∧ ∀ p, p ≠ sysModules → H1 p = none → Q (.ref p) (upd H1 p (.lst xs))
theorem pe_lstZ (h : PA X es t) : PE X (.List es pos) (tLstZ t) := by
  constructor
  intro pins s σ H Q I hq
  apply wpAny_List_spliced
  refine thn (h.run pos pins s σ H _ I hq) ?_
  intro us s1 hh
  obtain ⟨xs, H1, I1, r, z, q⟩ := hh
  refine ⟨by rw [← r.length]; exact z, ?_⟩
  have big := I1.big
  refine ⟨.ref s1.heap.objs.size, upd H1 _ (.lst xs), I1.laid (t' := s1.toks) (fun b u e => Heap.get?_push_of_some _ e) (Nat.le_refl _) ⟨z, us, 0, r, Heap.get?_push_size _ rfl⟩, rfl, q _ ?_ (I1.hok.fresh (Nat.le_refl _))⟩
  exact Nat.ne_of_gt big
def rListZ (K : PySem.W.Frag) : List V → Hp → VK → Prop := fun xs H Q => ∃ p ys, xs = [.ref p] ∧ (SqL K H p ys ∨ SqT K H p ys) ∧ ∀ l, l ≠ sysModules → H l = none → Q (.ref l) (upd H l (.lst ys))
theorem call_listZ : CallR X (.type "list") (rListZ X.K) := by
  intro pins s σ H vs us Q I r h
  obtain ⟨p, ys, rfl, hp, q⟩ := h
  obtain ⟨u, rfl, ru⟩ := r.one
  cases (show u = Value.ref p from ru)
  have big := I.big
  have new : ∀ (its : List Value), Vals ys its → ys.length ≤ sizeLine → ∀ (g : Heap) (c : Nat), (∀ b o, s.heap.get? b = some o → g.get? b = some o) → g.get? s.heap.objs.size = some { cls := .type "list", dict := none, data := .seq its.toArray c, slots := #[] } → EP X pins σ Q (.ref s.heap.objs.size) { s with heap := g } := by
    intro its rv hz g c kp e
    exact ⟨.ref s.heap.objs.size, upd H _ (.lst ys), I.laid (t' := s.toks) kp (Nat.le_refl _) (show ObjOk X.prog X.w _ g _ (.lst ys) from ⟨hz, its, c, rv, e⟩), rfl, q _ (Nat.ne_of_gt big) (I.hok.fresh (Nat.le_refl _))⟩
  cases hp with
  | inl hp =>
    obtain ⟨its, rv, pl, hz⟩ := I.list hp
    have ln := rv.length
    obtain ⟨o, ho, hc, n, hd⟩ := pl.isList
    exact call_list_seq p (.inl rfl) ho hc hd (fun g c kp e => new its rv hz g c kp e) (by simp only [List.size_toArray]; omega)
  | inr hp =>
    obtain ⟨its, rv, ⟨o, ho, hc, n, hd⟩, hz⟩ := I.tuple hp
    have ln := rv.length
    exact call_list_seq p (.inr rfl) ho hc hd (fun g c kp e => new its rv hz g c kp e) (by simp only [List.size_toArray]; omega)
end
mutual
inductive Dn (K : PySem.W.Frag) (N : Addr → Prop) (H : Hp) : V → PyData → Prop
  | non : Dn K N H .non .none
  | bl (b : Bool) : Dn K N H (.bl b) (.bool b)
  | int (i : Int) : Dn K N H (.int i) (.int i)
  | str (x : Str) : Dn K N H (.str x) (.str x)
  | tup {a : Addr} {xs : List V} {ds : List PyData} : SqT K H a xs → Dns K N H xs ds → Dn K N H (.ref a) (.tuple ds)
  | lst {a : Addr} {xs : List V} {ds : List PyData} : N a → H a = some (.lst xs) → Dns K N H xs ds → Dn K N H (.ref a) (.list ds)
inductive Dns (K : PySem.W.Frag) (N : Addr → Prop) (H : Hp) : List V → List PyData → Prop
  | nil : Dns K N H [] []
  | cons {v : V} {vs : List V} {d : PyData} {ds : List PyData} : Dn K N H v d → Dns K N H vs ds → Dns K N H (v :: vs) (d :: ds)
end
section
variable {K : PySem.W.Frag} {N M : Addr → Prop} {H H' : Hp}
mutual
theorem Dn.toDp : ∀ (d : PyData) (v : V), Dn K N H v d → Dp K H v d
  | .none, _, h => by cases h; exact .non
  | .bool _, _, h => by cases h; exact .bl _
  | .int _, _, h => by cases h; exact .int _
  | .str _, _, h => by cases h; exact .str _
  | .tuple ds, _, h => by
    cases h with
    | tup a b => exact .tup a (Dns.toDp ds _ b)
  | .list ds, _, h => by
    cases h with
    | lst n a b => exact .lst (SqL.of a) (Dns.toDp ds _ b)
  | .dict _, _, h => by cases h
theorem Dns.toDp : ∀ (ds : List PyData) (vs : List V), Dns K N H vs ds → DpAll K H vs ds
  | [], _, h => by cases h; exact .nil
  | d :: ds, _, h => by
    cases h with
    | cons a b => exact .cons (Dn.toDp d _ a) (Dns.toDp ds _ b)
end
mutual
theorem Dn.kk (k : Kt K H H') (f : ∀ a xs, N a → H a = some (.lst xs) → M a ∧ H' a = some (.lst xs)) : ∀ (d : PyData) (v : V), Dn K N H v d → Dn K M H' v d
  | .none, _, h => by cases h; exact .non
  | .bool _, _, h => by cases h; exact .bl _
  | .int _, _, h => by cases h; exact .int _
  | .str _, _, h => by cases h; exact .str _
  | .tuple ds, _, h => by
    cases h with
    | tup a b => exact .tup (k _ _ a) (Dns.kk k f ds _ b)
  | .list ds, _, h => by
    cases h with
    | lst n a b => exact .lst (f _ _ n a).1 (f _ _ n a).2 (Dns.kk k f ds _ b)
  | .dict _, _, h => by cases h
theorem Dns.kk (k : Kt K H H') (f : ∀ a xs, N a → H a = some (.lst xs) → M a ∧ H' a = some (.lst xs)) : ∀ (ds : List PyData) (vs : List V), Dns K N H vs ds → Dns K M H' vs ds
  | [], _, h => by cases h; exact .nil
  | d :: ds, _, h => by
    cases h with
    | cons a b => exact .cons (Dn.kk k f d _ a) (Dns.kk k f ds _ b)
end
mutual
theorem Dn.ofDt : ∀ (d : PyData) (v : V), Dt K H v d → Dn K N H v d
  | .int _, _, h => by cases h; exact .int _
  | .str _, _, h => by cases h; exact .str _
  | .tuple ds, _, h => by
    cases h with
    | tup a b => exact .tup a (Dns.ofDts ds _ b)
  | .none, _, h => by cases h
  | .bool _, _, h => by cases h
  | .list _, _, h => by cases h
  | .dict _, _, h => by cases h
theorem Dns.ofDts : ∀ (ds : List PyData) (vs : List V), Dts K H vs ds → Dns K N H vs ds
  | [], _, h => by cases h; exact .nil
  | d :: ds, _, h => by
    cases h with
    | cons a b => exact .cons (Dn.ofDt d _ a) (Dns.ofDts ds _ b)
end
theorem Dn.ks {d : PyData} {v : V} (h : Dn K N H v d) (s : Same H H') : Dn K N H' v d := Dn.kk (Kt.same s) (fun _ _ n e => ⟨n, s _ _ e⟩) d v h
theorem Dns.ks {ds : List PyData} {vs : List V} (h : Dns K N H vs ds) (s : Same H H') : Dns K N H' vs ds := Dns.kk (Kt.same s) (fun _ _ n e => ⟨n, s _ _ e⟩) ds vs h
theorem Dns.len : ∀ {vs : List V} {ds : List PyData}, Dns K N H vs ds → vs.length = ds.length
  | _, [], h => by cases h; rfl
  | _, d :: ds, h => by
    cases h with
    | cons a b => rw [List.length_cons, List.length_cons, Dns.len b]
theorem Dns.at : ∀ {vs : List V} {ds : List PyData} {i : Nat} {v : V}, Dns K N H vs ds → vs[i]? = some v → ∃ d, ds[i]? = some d ∧ Dn K N H v d
  | _, [], _, _, h, e => by cases h; simp at e
  | _, d :: ds, i, v, h, e => by
    cases h with
    | cons a b =>
      cases i with
      | zero => cases e; exact ⟨d, rfl, a⟩
      | succ i => exact Dns.at (i := i) b (by simpa using e)
def adD : PyData := .dict [(.str "a", .int 1)]
/-- an item: such data, or the dict {'a': 1} -/
def Dz (K : PySem.W.Frag) (N : Addr → Prop) (H : Hp) (v : V) (d : PyData) : Prop := Dn K N H v d ∨ ∃ a, v = .ref a ∧ N a ∧ H a = some (.dK [(Sum.inr "a", V.int 1)]) ∧ d = adD
theorem Dz.kk {v : V} {d : PyData} (h : Dz K N H v d) (k : Kt K H H') (f : ∀ a o, N a → H a = some o → M a ∧ H' a = some o) : Dz K M H' v d := by
  rcases h with h | ⟨a, e, n, e2, e3⟩
  · exact .inl (Dn.kk k (fun a xs n e => f a _ n e) d v h)
  · exact .inr ⟨a, e, (f _ _ n e2).1, (f _ _ n e2).2, e3⟩
theorem Dz.ks {v : V} {d : PyData} (h : Dz K N H v d) (s : Same H H') : Dz K N H' v d := h.kk (Kt.same s) fun _ _ n e => ⟨n, s _ _ e⟩
inductive Dzs (K : PySem.W.Frag) (N : Addr → Prop) (H : Hp) : List V → List PyData → Prop
  | nil : Dzs K N H [] []
  | cons {v : V} {vs : List V} {d : PyData} {ds : List PyData} : Dz K N H v d → Dzs K N H vs ds → Dzs K N H (v :: vs) (d :: ds)
theorem Dzs.kk (k : Kt K H H') (f : ∀ a o, N a → H a = some o → M a ∧ H' a = some o) : ∀ {vs : List V} {ds : List PyData}, Dzs K N H vs ds → Dzs K M H' vs ds
  | _, _, .nil => .nil
  | _, _, .cons a b => .cons (a.kk k f) (Dzs.kk k f b)
theorem Dzs.ks {ds : List PyData} {vs : List V} (h : Dzs K N H vs ds) (s : Same H H') : Dzs K N H' vs ds := h.kk (Kt.same s) fun _ _ n e => ⟨n, s _ _ e⟩
theorem Dzs.len : ∀ {vs : List V} {ds : List PyData}, Dzs K N H vs ds → vs.length = ds.length
  | _, _, .nil => rfl
  | _, _, .cons a b => by rw [List.length_cons, List.length_cons, Dzs.len b]
theorem Dzs.at : ∀ {vs : List V} {ds : List PyData} {i : Nat} {v : V}, Dzs K N H vs ds → vs[i]? = some v → ∃ d, ds[i]? = some d ∧ Dz K N H v d
  | _, _, i, v, .nil, e => by simp at e
  | _, _, i, v, .cons (d := d) a b, e => by
    cases i with
    | zero => cases e; exact ⟨d, rfl, a⟩
    | succ i => exact Dzs.at (i := i) b (by simpa using e)
theorem Dzs.app : ∀ {vs us : List V} {ds es : List PyData}, Dzs K N H vs ds → Dzs K N H us es → Dzs K N H (vs ++ us) (ds ++ es)
  | _, _, _, _, .nil, h => h
  | _, _, _, _, .cons a b, h => .cons a (Dzs.app b h)
theorem Dzs.take : ∀ {vs : List V} {ds : List PyData} (n : Nat), Dzs K N H vs ds → Dzs K N H (vs.take n) (ds.take n)
  | _, _, n, .nil => by rw [List.take_nil, List.take_nil]; exact .nil
  | _, _, 0, .cons a b => .nil
  | _, _, n + 1, .cons a b => .cons a (Dzs.take n b)
theorem Dzs.drop : ∀ {vs : List V} {ds : List PyData} (n : Nat), Dzs K N H vs ds → Dzs K N H (vs.drop n) (ds.drop n)
  | _, _, n, .nil => by rw [List.drop_nil, List.drop_nil]; exact .nil
  | _, _, 0, .cons a b => .cons a b
  | _, _, n + 1, .cons a b => Dzs.drop n b
theorem Dzs.ofDts : ∀ {vs : List V} {ds : List PyData}, Dts K H vs ds → Dzs K N H vs ds
  | _, [], h => by cases h; exact .nil
  | _, d :: ds, h => by
    cases h with
    | cons a b => exact .cons (.inl (Dn.ofDt d _ a)) (Dzs.ofDts b)
end
section
variable {X : Cx} {pins : List (Addr × Obj)} {σ : L2.St} {H : Hp} {s : Shared} {N : Addr → Prop}
mutual
theorem Dn.reads (I : Inv X pins σ H s) (hN : ∀ a, N a → a ≠ sysModules) : ∀ (d : PyData) (v : V) (u : Value), Dn X.K N H v d → RelV v u → ∃ as, Reads s.heap u d as ∧ sysModules ∉ as
  | .none, _, _, h, r => by cases h; cases r; exact ⟨_, .none, List.not_mem_nil⟩
  | .bool b, _, _, h, r => by cases h; cases r; exact ⟨_, .bool b, List.not_mem_nil⟩
  | .int i, _, _, h, r => by cases h; obtain ⟨t, rfl⟩ := r; exact ⟨_, .int i t, List.not_mem_nil⟩
  | .str x, _, _, h, r => by cases h; obtain ⟨t, rfl⟩ := r; exact ⟨_, .str x t, List.not_mem_nil⟩
  | .tuple ds, _, _, h, r => by
    cases h with
    | tup a b =>
      cases r
      obtain ⟨its, rv, ⟨o, ho, hc, n, hd⟩, _⟩ := I.tuple a
      obtain ⟨as, hr, hn⟩ := Dns.reads I hN ds _ its b rv
      exact ⟨as, .tuple ho hc hd hr, hn⟩
  | .list ds, _, _, h, r => by
    cases h with
    | @lst a _ _ na e b =>
      cases r
      obtain ⟨its, rv, ⟨o, n, ho, hc, _, hd⟩, _⟩ := I.list (SqL.of e)
      obtain ⟨as, hr, hn⟩ := Dns.reads I hN ds _ its b rv
      refine ⟨a :: as, .list ho hc hd hr, fun m => ?_⟩
      rcases List.mem_cons.mp m with z | z
      · exact hN a na z.symm
      · exact hn z
  | .dict _, _, _, h, _ => by cases h
theorem Dns.reads (I : Inv X pins σ H s) (hN : ∀ a, N a → a ≠ sysModules) : ∀ (ds : List PyData) (vs : List V) (us : List Value), Dns X.K N H vs ds → Vals vs us → ∃ as, ReadsAll s.heap us ds as ∧ sysModules ∉ as
  | [], _, _, h, r => by cases h; cases r; exact ⟨_, .nil, List.not_mem_nil⟩
  | d :: ds, _, _, h, r => by
    cases h with
    | cons a b =>
      cases r with
      | cons ra rb =>
        obtain ⟨as, h1, n1⟩ := Dn.reads I hN d _ _ a ra
        obtain ⟨bs, h2, n2⟩ := Dns.reads I hN ds _ _ b rb
        exact ⟨as ++ bs, .cons h1 h2, fun m => (List.mem_append.mp m).elim n1 n2⟩
end
theorem Dz.reads (I : Inv X pins σ H s) (hN : ∀ a, N a → a ≠ sysModules) {d : PyData} {v : V} {u : Value} (h : Dz X.K N H v d) (r : RelV v u) : ∃ as, Reads s.heap u d as ∧ sysModules ∉ as := by
  rcases h with h | ⟨a, rfl, na, e, rfl⟩
  · exact Dn.reads I hN d v u h r
  · cases r
    obtain ⟨_, _, vs, rel, o, es, ep, h1, h2, h3, _, pr, _⟩ := dk_of I.hok e
    cases rel with
    | @cons p0 kv ps qs hd tl =>
      cases tl
      generalize hes : es.toList = L at pr
      cases pr with
      | @cons en _ es' kvs' k1 v1 t =>
        cases t
        have k1 : keyIs kv.1 en.key = true := k1
        obtain ⟨r1, r2⟩ := hd
        rw [← show (Sum.inr "a" : Key) = kv.1 from r1] at k1
        rcases keyIs_shape k1 with ⟨i, t, z, _⟩ | ⟨x, t, z, ek⟩
        · cases z
        · cases z
          obtain ⟨t2, ev⟩ := (show RelV (V.int 1) kv.2 from r2)
          refine ⟨_, .dict (as := []) (bs := []) h1 h2.1 h3 ?_ ?_, ?_⟩
          · rw [hes]
            show ReadsAll s.heap [en.key] [PyData.str "a"] []
            rw [ek]
            exact .cons (.str _ t) .nil
          · rw [hes]
            show ReadsAll s.heap [en.val] [PyData.int 1] []
            rw [v1, ev]
            exact .cons (.int _ t2) .nil
          · intro m
            rcases List.mem_cons.mp m with z | z
            · exact hN a na z.symm
            · simp at z
theorem Dzs.reads (I : Inv X pins σ H s) (hN : ∀ a, N a → a ≠ sysModules) : ∀ {ds : List PyData} {vs : List V} {us : List Value}, Dzs X.K N H vs ds → Vals vs us → ∃ as, ReadsAll s.heap us ds as ∧ sysModules ∉ as
  | _, _, _, .nil, r => by cases r; exact ⟨_, .nil, List.not_mem_nil⟩
  | _, _, _, .cons a b, r => by
    cases r with
    | cons ra rb =>
      obtain ⟨as, h1, n1⟩ := a.reads I hN ra
      obtain ⟨bs, h2, n2⟩ := Dzs.reads I hN b rb
      exact ⟨as ++ bs, .cons h1 h2, fun m => (List.mem_append.mp m).elim n1 n2⟩
end
/-! repr of a list of such -/
def rReprZ (K : PySem.W.Frag) : List V → Hp → VK → Prop := fun xs H Q => ∃ (a : Addr) (vs : List V) (ds : List PyData) (N : Addr → Prop), xs = [.ref a] ∧ a ≠ sysModules ∧ (∀ b, N b → b ≠ sysModules) ∧ H a = some (.lst vs) ∧ Dzs K N H vs ds ∧ (PyData.list ds).showable = true ∧ (PyData.list ds).depth ≤ 60 ∧ (PyData.list ds).shown.length ≤ sizeLine ∧ Q (.str (PyData.list ds).shown) H
theorem call_reprZ {X : Cx} (hg : X.A.guards = some []) (hu : X.A.units + 64 < cLine) : CallR X (.builtin "repr") (rReprZ X.K) := by
  intro pins s σ H xs us Q I r h
  obtain ⟨a, vs, ds, N, rfl, na, hN, ha, hd, hs, hz, hl, q⟩ := h
  obtain ⟨u, rfl, ru⟩ := r.one
  cases ru
  obtain ⟨its, rv, ⟨o, n, ho, hc, _, hd2⟩, _⟩ := I.list (SqL.of ha)
  obtain ⟨as, hr, hn⟩ := hd.reads I hN rv
  refine PySem.repr_of_reads' (.list ho hc hd2 hr) hs (fun _ m => ?_) hg (by omega) (fun _ _ e => e) (fun g u tk k => ⟨.str _, H, I.kept (t' := tk) k, ⟨_, rfl⟩, q⟩) hl
  rcases List.mem_cons.mp m with z | z
  · exact na z.symm
  · exact hn z
end Dz

/-! (de.txt and {'a': 1}.) Data with lists and small dicts that keep off some addresses; repr of such, == of a text and a dict, x in a tuple of texts, a list != []. -/
namespace De
open PySem PySem.Spec PyProof.Rows L2 Dv Wm PySem.SeqAt
mutual
inductive En (K : PySem.W.Frag) (N : Addr → Prop) (H : Hp) : V → PyData → Prop
  | non : En K N H .non .none
  | bl (b : Bool) : En K N H (.bl b) (.bool b)
  | int (i : Int) : En K N H (.int i) (.int i)
  | str (x : Str) : En K N H (.str x) (.str x)
  | tup {a : Addr} {xs : List V} {ds : List PyData} : SqT K H a xs → Ens K N H xs ds → En K N H (.ref a) (.tuple ds)
  | lst {a : Addr} {xs : List V} {ds : List PyData} : N a → H a = some (.lst xs) → Ens K N H xs ds → En K N H (.ref a) (.list ds)
  | emp {a : Addr} : N a → H a = some (.dK []) → En K N H (.ref a) (.dict [])
  | one {a : Addr} : N a → H a = some (.dK [(Sum.inr "a", V.int 1)]) → En K N H (.ref a) (.dict [(.str "a", .int 1)])
inductive Ens (K : PySem.W.Frag) (N : Addr → Prop) (H : Hp) : List V → List PyData → Prop
  | nil : Ens K N H [] []
  | cons {v : V} {vs : List V} {d : PyData} {ds : List PyData} : En K N H v d → Ens K N H vs ds → Ens K N H (v :: vs) (d :: ds)
end
section
variable {K : PySem.W.Frag} {N M : Addr → Prop} {H H' : Hp}
mutual
theorem En.kk (k : Kt K H H') (f : ∀ a o, N a → H a = some o → M a ∧ H' a = some o) : ∀ (d : PyData) (v : V), En K N H v d → En K M H' v d
  | .none, _, h => by cases h; exact .non
  | .bool _, _, h => by cases h; exact .bl _
  | .int _, _, h => by cases h; exact .int _
  | .str _, _, h => by cases h; exact .str _
  | .tuple ds, _, h => by
    cases h with
    | tup a b => exact .tup (k _ _ a) (Ens.kk k f ds _ b)
  | .list ds, _, h => by
    cases h with
    | lst n a b => exact .lst (f _ _ n a).1 (f _ _ n a).2 (Ens.kk k f ds _ b)
  | .dict _, _, h => by
    cases h with
    | emp n e => exact .emp (f _ _ n e).1 (f _ _ n e).2
    | one n e => exact .one (f _ _ n e).1 (f _ _ n e).2
theorem Ens.kk (k : Kt K H H') (f : ∀ a o, N a → H a = some o → M a ∧ H' a = some o) : ∀ (ds : List PyData) (vs : List V), Ens K N H vs ds → Ens K M H' vs ds
  | [], _, h => by cases h; exact .nil
  | d :: ds, _, h => by
    cases h with
    | cons a b => exact .cons (En.kk k f d _ a) (Ens.kk k f ds _ b)
end
mutual
theorem En.ofDt : ∀ (d : PyData) (v : V), Dt K H v d → En K N H v d
  | .int _, _, h => by cases h; exact .int _
  | .str _, _, h => by cases h; exact .str _
  | .tuple ds, _, h => by
    cases h with
    | tup a b => exact .tup a (Ens.ofDts ds _ b)
  | .none, _, h => by cases h
  | .bool _, _, h => by cases h
  | .list _, _, h => by cases h
  | .dict _, _, h => by cases h
theorem Ens.ofDts : ∀ (ds : List PyData) (vs : List V), Dts K H vs ds → Ens K N H vs ds
  | [], _, h => by cases h; exact .nil
  | d :: ds, _, h => by
    cases h with
    | cons a b => exact .cons (En.ofDt d _ a) (Ens.ofDts ds _ b)
end
theorem En.ks {d : PyData} {v : V} (h : En K N H v d) (s : Same H H') : En K N H' v d := En.kk (Kt.same s) (fun _ _ n e => ⟨n, s _ _ e⟩) d v h
theorem Ens.ks {ds : List PyData} {vs : List V} (h : Ens K N H vs ds) (s : Same H H') : Ens K N H' vs ds := Ens.kk (Kt.same s) (fun _ _ n e => ⟨n, s _ _ e⟩) ds vs h
theorem Ens.len : ∀ {vs : List V} {ds : List PyData}, Ens K N H vs ds → vs.length = ds.length
  | _, [], h => by cases h; rfl
  | _, d :: ds, h => by
    cases h with
    | cons a b => rw [List.length_cons, List.length_cons, Ens.len b]
theorem Ens.at : ∀ {vs : List V} {ds : List PyData} {i : Nat} {v : V}, Ens K N H vs ds → vs[i]? = some v → ∃ d, ds[i]? = some d ∧ En K N H v d
  | _, [], _, _, h, e => by cases h; simp at e
  | _, d :: ds, i, v, h, e => by
    cases h with
    | cons a b =>
      cases i with
      | zero => cases e; exact ⟨d, rfl, a⟩
      | succ i => exact Ens.at (i := i) b (by simpa using e)
theorem Ens.take : ∀ {vs : List V} {ds : List PyData} (n : Nat), Ens K N H vs ds → Ens K N H (vs.take n) (ds.take n)
  | _, _, n, .nil => by rw [List.take_nil, List.take_nil]; exact .nil
  | _, _, 0, .cons a b => .nil
  | _, _, n + 1, .cons a b => .cons a (Ens.take n b)
theorem Ens.drop : ∀ {vs : List V} {ds : List PyData} (n : Nat), Ens K N H vs ds → Ens K N H (vs.drop n) (ds.drop n)
  | _, _, n, .nil => by rw [List.drop_nil, List.drop_nil]; exact .nil
  | _, _, 0, .cons a b => .cons a b
  | _, _, n + 1, .cons a b => Ens.drop n b
theorem Ens.app : ∀ {vs us : List V} {ds es : List PyData}, Ens K N H vs ds → Ens K N H us es → Ens K N H (vs ++ us) (ds ++ es)
  | _, _, _, _, .nil, h => h
  | _, _, _, _, .cons a b, h => .cons a (Ens.app b h)
theorem Ens.set {v : V} {d : PyData} (h : En K N H v d) : ∀ {vs : List V} {ds : List PyData} (k : Nat), Ens K N H vs ds → Ens K N H (vs.set k v) (ds.set k d)
  | _, _, _, .nil => .nil
  | _, _, 0, .cons a b => .cons h b
  | _, _, k + 1, .cons a b => .cons a (Ens.set h k b)
theorem Ens.snoc {vs : List V} {ds : List PyData} {v : V} {d : PyData} (h : Ens K N H vs ds) (g : En K N H v d) : Ens K N H (vs ++ [v]) (ds ++ [d]) := h.app (.cons g .nil)
theorem Ens.get : ∀ {vs : List V} {ds : List PyData} {i : Nat} {d : PyData}, Ens K N H vs ds → ds[i]? = some d → ∃ v, vs[i]? = some v ∧ En K N H v d
  | _, _, _, _, .nil, e => by simp at e
  | _, _, i, d, .cons (v := v) a b, e => by
    cases i with
    | zero => cases e; exact ⟨v, rfl, a⟩
    | succ i => exact Ens.get (i := i) b (by simpa using e)
theorem Ens.rep : ∀ (k : Nat) {vs : List V} {ds : List PyData}, Ens K N H vs ds → Ens K N H (List.replicate k vs).flatten (List.replicate k ds).flatten
  | 0, _, _, _ => .nil
  | k + 1, vs, ds, h => by
    rw [List.replicate_succ, List.replicate_succ, List.flatten_cons, List.flatten_cons]
    exact h.app (Ens.rep k h)
end
section
variable {X : Cx} {pins : List (Addr × Obj)} {σ : L2.St} {H : Hp} {s : Shared} {N : Addr → Prop}
mutual
theorem En.reads (I : Inv X pins σ H s) (hN : ∀ a, N a → a ≠ sysModules) : ∀ (d : PyData) (v : V) (u : Value), En X.K N H v d → RelV v u → ∃ as, Reads s.heap u d as ∧ sysModules ∉ as
  | .none, _, _, h, r => by cases h; cases r; exact ⟨_, .none, List.not_mem_nil⟩
  | .bool b, _, _, h, r => by cases h; cases r; exact ⟨_, .bool b, List.not_mem_nil⟩
  | .int i, _, _, h, r => by cases h; obtain ⟨t, rfl⟩ := r; exact ⟨_, .int i t, List.not_mem_nil⟩
  | .str x, _, _, h, r => by cases h; obtain ⟨t, rfl⟩ := r; exact ⟨_, .str x t, List.not_mem_nil⟩
  | .tuple ds, _, _, h, r => by
    cases h with
    | tup a b =>
      cases r
      obtain ⟨its, rv, ⟨o, ho, hc, n, hd⟩, _⟩ := I.tuple a
      obtain ⟨as, hr, hn⟩ := Ens.reads I hN ds _ its b rv
      exact ⟨as, .tuple ho hc hd hr, hn⟩
  | .list ds, _, _, h, r => by
    cases h with
    | @lst a _ _ na e b =>
      cases r
      obtain ⟨its, rv, ⟨o, n, ho, hc, _, hd⟩, _⟩ := I.list (SqL.of e)
      obtain ⟨as, hr, hn⟩ := Ens.reads I hN ds _ its b rv
      refine ⟨a :: as, .list ho hc hd hr, fun m => ?_⟩
      rcases List.mem_cons.mp m with z | z
      · exact hN a na z.symm
      · exact hn z
  | .dict _, _, _, h, r => by
    cases h with
    | @emp a na e =>
      cases r
      obtain ⟨_, _, vs, rel, o, es, ep, h1, h2, h3, _, pr, _⟩ := dk_of I.hok e
      cases rel
      generalize hes : es.toList = L at pr
      cases pr
      refine ⟨_, .dict (as := []) (bs := []) h1 h2.1 h3 (by rw [hes]; exact .nil) (by rw [hes]; exact .nil), fun m => ?_⟩
      rcases List.mem_cons.mp m with z | z
      · exact hN a na z.symm
      · simp at z
    | @one a na e => exact Dz.Dz.reads I hN (.inr ⟨a, rfl, na, e, rfl⟩) r
theorem Ens.reads (I : Inv X pins σ H s) (hN : ∀ a, N a → a ≠ sysModules) : ∀ (ds : List PyData) (vs : List V) (us : List Value), Ens X.K N H vs ds → Vals vs us → ∃ as, ReadsAll s.heap us ds as ∧ sysModules ∉ as
  | [], _, _, h, r => by cases h; cases r; exact ⟨_, .nil, List.not_mem_nil⟩
  | d :: ds, _, _, h, r => by
    cases h with
    | cons a b =>
      cases r with
      | cons ra rb =>
        obtain ⟨as, h1, n1⟩ := En.reads I hN d _ _ a ra
        obtain ⟨bs, h2, n2⟩ := Ens.reads I hN ds _ _ b rb
        exact ⟨as ++ bs, .cons h1 h2, fun m => (List.mem_append.mp m).elim n1 n2⟩
end
end
/-- repr of such -/
def rReprE (K : PySem.W.Frag) : List V → Hp → VK → Prop := fun xs H Q => ∃ (v : V) (d : PyData) (N : Addr → Prop), xs = [v] ∧ (∀ b, N b → b ≠ sysModules) ∧ En K N H v d ∧ d.showable = true ∧ d.depth ≤ 60 ∧ d.shown.length ≤ sizeLine ∧ Q (.str d.shown) H
theorem call_reprE {X : Cx} (hg : X.A.guards = some []) (hu : X.A.units + 64 < cLine) : CallR X (.builtin "repr") (rReprE X.K) := by
  intro pins s σ H xs us Q I r h
  obtain ⟨v, d, N, rfl, hN, hd, hs, hz, hl, q⟩ := h
  obtain ⟨u, rfl, ru⟩ := r.one
  obtain ⟨as, rd, hn⟩ := En.reads I hN d v u hd ru
  cases rd with
  | none => exact PySem.P.repr_of_none ⟨.str _, H, I.tok _, ⟨_, rfl⟩, q⟩
  | bool b => exact PySem.P.repr_of_bool ⟨.str _, H, I.tok _, ⟨_, rfl⟩, q⟩
  | int i t => exact PySem.P.repr_of_int (of_decide_eq_true hs) ⟨.str _, H, I.tok _, ⟨_, rfl⟩, q⟩
  | str z t => exact PySem.P.repr_of_str (hsz := hl) ⟨.str _, H, I.tok _, ⟨_, rfl⟩, q⟩
  | list h1 h2 h3 h4 => exact PySem.repr_of_reads' (.list h1 h2 h3 h4) hs (fun _ m => hn m) hg (by omega) (fun _ _ e => e) (fun g u tk k => ⟨.str _, H, I.kept (t' := tk) k, ⟨_, rfl⟩, q⟩) hl
  | tuple h1 h2 h3 h4 => exact PySem.repr_of_reads' (.tuple h1 h2 h3 h4) hs (fun _ m => hn m) hg (by omega) (fun _ _ e => e) (fun g u tk k => ⟨.str _, H, I.kept (t' := tk) k, ⟨_, rfl⟩, q⟩) hl
  | dict h1 h2 h3 h4 h5 => exact PySem.repr_of_reads' (.dict h1 h2 h3 h4 h5) hs (fun _ m => hn m) hg (by omega) (fun _ _ e => e) (fun g u tk k => ⟨.str _, H, I.kept (t' := tk) k, ⟨_, rfl⟩, q⟩) hl
end De
namespace De
open PySem PySem.SeqAt MeetsSeq
section
variable {A : Around} {s : Shared}
theorem str_declines (b : Str) (u : Tok) (l : Addr) (es : Array DictEntry) (nn : Nat) (dd : Option Addr) (sl : Array (Option Value)) :
    Meets (Builtin.«str.__eq__» ⟨[.str b u, .ref l], []⟩) (fun _ R s => s.heap.get? l = some { cls := .type "dict", dict := dd, data := .dict es nn, slots := sl } ∧ R (.ok (.ret .notImplemented)) s) :=
  .of_wp fun prog w A R s h => by obtain ⟨hp, g, d, tk, os⟩ := s; obtain ⟨hl, h⟩ := h; wp_walk using wpAny_loadPart' hl, wpAny_load hl; exact ⟨_, rfl, h⟩
theorem dict_declines (b : Str) (u : Tok) (l : Addr) (es : Array DictEntry) (nn : Nat) (dd : Option Addr) (sl : Array (Option Value)) :
    Meets (Builtin.«dict.__eq__» ⟨[.ref l, .str b u], []⟩) (fun _ R s => s.heap.get? l = some { cls := .type "dict", dict := dd, data := .dict es nn, slots := sl } ∧ R (.ok (.ret .notImplemented)) s) :=
  .of_wp fun prog w A R s h => by obtain ⟨hp, g, d, tk, os⟩ := s; obtain ⟨hl, h⟩ := h; have f1 := F.sub_str_dict; wp_walk using wpAny_loadPart' hl; exact ⟨_, rfl, h⟩
theorem rc_str_dict {l : Addr} {o : Obj} {es : Array DictEntry} {nn : Nat} (b : Str) (u : Tok) (ho : s.heap.get? l = some o) (hc : o.cls = .type "dict") (hd : o.data = .dict es nn) (hu : A.units < cLine) : RcAt A s (.str b u) (.ref l) false := fun prog w E Q h => by
  obtain ⟨cls, dd, data, sl⟩ := o
  simp only at hc hd
  subst hc hd
  exact rc_eq_decline_or (k := false) (typeIs_str s b u) ⟨_, ho, rfl⟩ (by decide) F.sub_dict_str F.slot_str_eq F.slot_dict_eq_refl
    (fun _ hq => call_meets F.slot_str_eq (typeIs_str s b u) F.entry_str_eq (F.args_str_eq_2 _ _) (str_declines b u l es nn dd sl) ⟨ho, hq⟩)
    (fun _ hq => call_meets F.slot_dict_eq_refl ⟨_, ho, rfl⟩ F.entry_dict_eq (F.args_dict_eq_2 _ _) (dict_declines b u l es nn dd sl) ⟨ho, hq⟩)
    (fun _ hq => wpAny_of_eq (rfl : isSame (.str b u) (.ref l) = pure false) hq) (.inr hu) h
theorem eq_str_dict {l : Addr} {o : Obj} {es : Array DictEntry} {nn : Nat} (b : Str) (u : Tok) (ho : s.heap.get? l = some o) (hc : o.cls = .type "dict") (hd : o.data = .dict es nn) (hu : A.units < cLine) : EqAt A s (.str b u) (.ref l) false := fun prog w E Q h => by
  unfold eqBool
  refine wpAny_holding ?_
  refine wpAny_ite_split (fun hab => absurd (eq_of_beq hab) nofun) (fun _ => ?_)
  exact wpAny_bind (rc_str_dict b u ho hc hd hu prog w E _ (wpAny_truthy_bool h))
end
end De
namespace De
open PySem PySem.Spec PyProof.Rows L2 Dv Wm PySem.SeqAt
/-- a text against any such datum -/
theorem eq_str_any {X : Cx} {pins : List (Addr × Obj)} {σ : L2.St} {H : Hp} {s : Shared} {N : Addr → Prop} {A : Around} (I : Inv X pins σ H s) (hN : ∀ a, N a → a ≠ sysModules) {d : PyData} {v : V} {u : Value} (h : En X.K N H v d) (r : RelV v u) (t : Str) (k : Tok) (hu : A.units < cLine) :
    EqAt A s (.str t k) u (PyData.eqv (.str t) d) := by
  obtain ⟨as, rd, _⟩ := En.reads I hN d v u h r
  cases rd with
  | none => exact EqAt.str_none t k
  | bool y => exact EqAt.str_bool t k y
  | int y u => exact EqAt.str_int t k y u
  | str y u => exact EqAt.str_str t k y u
  | list k1 k2 k3 k4 => exact EqAt.str_list t k ⟨_, k1, k2, _, k3⟩ hu
  | tuple k1 k2 k3 k4 => exact EqAt.str_tuple t k ⟨_, k1, k2, _, k3⟩ hu
  | dict k1 k2 k3 k4 k5 => exact eq_str_dict t k k1 k2 k3 hu
/-- x in (texts), x any such datum -/
def rInTx (K : PySem.W.Frag) : R2 := fun x y H Q => ∃ (d : PyData) (N : Addr → Prop) (q : Addr) (ts : List Str), (∀ a, N a → a ≠ sysModules) ∧ En K N H x d ∧ y = .ref q ∧ SqT K H q (ts.map V.str) ∧ Q (.bl (ts.any fun t => PyData.eqv (.str t) d)) H
theorem vals_str : ∀ {ts : List Str} {us : List Value}, Vals (ts.map V.str) us → ∀ y ∈ us, ∃ t k, y = Value.str t k
  | [], _, h, _, m => by cases h; cases m
  | t :: ts, _, h, y, m => by
    cases h with
    | cons a b =>
      rcases List.mem_cons.mp m with rfl | m
      · obtain ⟨k, e⟩ := a
        exact ⟨t, k, e⟩
      · exact vals_str b y m
def strB (d : PyData) : Value → Bool
  | .str t _ => PyData.eqv (.str t) d
  | _ => false
theorem any_str (d : PyData) : ∀ {ts : List Str} {us : List Value}, Vals (ts.map V.str) us → us.any (strB d) = ts.any fun t => PyData.eqv (.str t) d
  | [], _, h => by cases h; rfl
  | t :: ts, _, h => by
    cases h with
    | cons a b =>
      obtain ⟨k, e⟩ := a
      rw [List.any_cons, List.any_cons, any_str d b, e]
      rfl
theorem op_inTx {X : Cx} (hu : X.A.units + 65 < cLine) : OpR X (compareOp .In) (rInTx X.K) := by
  intro pins s σ H x y v u Q I rx ry h
  obtain ⟨d, N, q, ts, hN, hd, rfl, hq, k⟩ := h
  cases ry
  obtain ⟨its, rv, hl, _⟩ := I.tuple hq
  refine SeqAt.in_tupleAt (strB d) hl (fun y hy => ?_) ?_
  · obtain ⟨t, k, rfl⟩ := vals_str rv y (by simpa using hy)
    exact eq_str_any I hN hd rx t k (show X.A.units + 1 < cLine by omega)
  · have e : its.toArray.any (strB d) = ts.any fun t => PyData.eqv (.str t) d := by
      rw [← Array.any_toList]
      exact any_str d (by simpa using rv)
    rw [e]
    exact ⟨.bl _, H, I, rfl, k⟩
/-- xs != [] -/
def rNeNil (K : PySem.W.Frag) : R2 := fun x y H Q => ∃ (a b : Addr) (xs : List V), x = .ref a ∧ y = .ref b ∧ SqL K H a xs ∧ SqL K H b [] ∧ Q (.bl (!xs.isEmpty)) H
theorem op_neNil {X : Cx} (hu : X.A.units + 65 < cLine) : OpR X (compareOp .NotEq) (rNeNil X.K) := by
  intro pins s σ H x y v u Q I rx ry h
  obtain ⟨a, b, xs, rfl, rfl, ha, hb, k⟩ := h
  cases rx
  cases ry
  obtain ⟨its, rv, pl, _⟩ := I.list ha
  obtain ⟨jts, rw2, pl2, _⟩ := I.list hb
  cases rw2
  have hu2 : X.A.units < cLine := by omega
  show wpAny _ _ (richCompare .NotEq _ _) _ _ s
  cases rv with
  | nil => exact RcNeAt.lists (e := fun _ => true) pl.isList pl2.isList rfl hu2 (fun j h1 => absurd h1 (by simp)) _ _ _ _ ⟨.bl _, H, I, rfl, k⟩
  | cons r1 r2 => exact RcNeAt.lists_lengths pl.isList pl2.isList (by simp) hu2 _ _ _ _ ⟨.bl _, H, I, rfl, k⟩
end De

/-! xs == [] -/
namespace De
open PySem PySem.Spec PyProof.Rows L2
def rEqNil (K : PySem.W.Frag) : R2 := fun x y H Q => ∃ (a b : Addr) (xs : List V), x = .ref a ∧ y = .ref b ∧ SqL K H a xs ∧ SqL K H b [] ∧ Q (.bl xs.isEmpty) H
theorem op_eqNil {X : Cx} (hu : X.A.units + 65 < cLine) : OpR X (compareOp .Eq) (rEqNil X.K) := by
  intro pins s σ H x y v u Q I rx ry h
  obtain ⟨a, b, xs, rfl, rfl, ha, hb, k⟩ := h
  cases rx
  cases ry
  obtain ⟨its, rv, pl, _⟩ := I.list ha
  obtain ⟨jts, rw2, pl2, _⟩ := I.list hb
  cases rw2
  have hu2 : X.A.units < cLine := by omega
  show wpAny _ _ (richCompare .Eq _ _) _ _ s
  cases rv with
  | nil => exact PySem.SeqAt.RcAt.lists (e := fun _ => true) pl.isList pl2.isList rfl hu2 (fun j h1 => absurd h1 (by simp)) _ _ _ _ ⟨.bl _, H, I, rfl, k⟩
  | cons r1 r2 => exact PySem.SeqAt.RcAt.lists_lengths pl.isList pl2.isList (by simp) hu2 _ _ _ _ ⟨.bl _, H, I, rfl, k⟩
end De

/-! enumerate(list, start=k), as a thing that a for or a comprehension walks. -/
namespace Eu
open PySem PySem.Spec PyProof.Rows L2
section
variable {prog : Program} {w : World} {A : Around} {E : Value → Shared → Prop} {s : Shared}
theorem lst_end {e it t : Addr} {i : Nat} {its : Array Value} {old : Value} {k : Int} {Q : Option Value → Shared → Prop} (hh : A.handled = none) (er : IsEnum s.heap e it k old) (ti : s.heap.IsListIter it t i) (ht : s.heap.IsList t its) (hx : its[i]? = none)
    (q : ∀ g, Heap.ExtBut it s.heap g → Q none { s with heap := g }) : wpAny (model prog w) A (pyNext (.ref e)) Q E s := by
  have te : s.TypeIs (.ref e) "enumerate" := ⟨_, er, rfl⟩
  unfold pyNext
  refine wpAny_bind (wpAny_attempt (wpAny_callSpecial?_slot (name := Str.ofString "__next__") te F.slot_enumerate_next (wpAny_call_entry F.slot_enumerate_next te F.entry_enumerate_next ?_ (F.args_enumerate_next_1 _))))
  show wpAny _ _ (field (.ref e) 2 >>= _) _ _ _
  refine wpAny_bind (wpAny_field er rfl (x := .ref it) rfl ?_)
  refine wpAny_bind (wpAny_nextOf_list_end (show A.in1.handled = none from hh) ti ht hx fun g x k1 ⟨o, k2, k3⟩ => ?_)
  refine wpAny_bind (wpAny_isInstance (T := "StopIteration") (b := true) ⟨o, k2, k3⟩ isSubtype_stop ?_)
  exact wpAny_pure (q _ k1)
end
/-- the list at a, its items counted from k -/
def Its (K : PySem.W.Frag) (a : Addr) (k : Int) : It :=
  ⟨fun i H => ∃ (xs : List V) (x : V), SqL K H a xs ∧ xs[i]? = some x, fun i H v H' => ∃ T x, v = .ref T ∧ H T = none ∧ H' = upd H T (.tup [.int (k + (i : Nat)), x]) ∧ ∀ xs, SqL K H a xs → xs[i]? = some x, fun i H => ∃ xs : List V, SqL K H a xs ∧ xs.length ≤ i⟩
theorem turn_its {P : Program} {w : World} {K : PySem.W.Frag} {elts : List Expr} {kk : Nat} {tpos : Pos} {k : Int} (a e it : Addr) (nei : e ≠ it) (nea : e ≠ a) (nai : a ≠ it) :
    Turn P w K (.Tuple elts kk tpos) (Its K a k) [e, it] e (fun i h => (∃ old, IsEnum h e it (k + ((i : Nat) : Int)) old) ∧ h.IsListIter it a i) where
  mem := by simp
  obj := fun i h st b hb => by
    obtain ⟨⟨old, er⟩, o, ho, _, hd⟩ := st
    have hb' : b = e ∨ b = it := by simpa using hb
    rcases hb' with z | z
    · rw [z]
      exact ⟨_, er, fun v q => nomatch q⟩
    · rw [z]
      exact ⟨o, ho, fun v q => by rw [hd] at q; cases q⟩
  keep := fun i h g st kp => by
    obtain ⟨⟨old, er⟩, ti⟩ := st
    exact ⟨⟨old, kp e (by simp) _ er⟩, ti.at fun o q => kp it (by simp) o q⟩
  item := by
    intro X hP hw hK hc i pins s σ H E I hf st hg
    subst hP hw hK
    obtain ⟨⟨old, er⟩, ti⟩ := st
    obtain ⟨xs, x, hq, hx⟩ := hg
    obtain ⟨its, rv, p, _⟩ := I.list hq
    obtain ⟨u, hu, ru⟩ := rv.get hx
    have el : e < s.heap.objs.size := Heap.lt_size er
    have il : it < s.heap.objs.size := by
      obtain ⟨_, q, _⟩ := id ti
      exact Heap.lt_size q
    have hlt : i < its.toArray.size := by
      have q := (List.getElem?_eq_some_iff.mp hu).1
      simpa using q
    have hd : X.A.in1.handled = none := I.ok.hd hc
    refine wpAny_pyNext_enum_itemC (Draws.list hd it a nai its.toArray) er ⟨ti, p.isList⟩ hlt nei (by simp [nei, nea]) fun y g tk hy eo st2 hT hsz hk => ?_
    have ey : y = u := by
      rw [show its.toArray[i]? = some u by simpa using hu] at hy
      exact (Option.some.inj hy).symm
    subst ey
    refine ⟨_, rfl, wpAny_letOwnedTupleGo_enum (s := { s with heap := g, toks := tk + 1 }) eo fun g2 er2 sb => ?_⟩
    have hT2 : g2.get? s.heap.objs.size = some { cls := .type "tuple", data := .seq #[.int (k + (i : Nat)) tk, y] } := (sb.2 _ (Nat.ne_of_gt el)).trans hT
    have new : ObjOk X.prog X.w (upd H s.heap.objs.size (.tup [.int (k + (i : Nat)), x])) g2 s.heap.objs.size (.tup [.int (k + (i : Nat)), x]) := ⟨by show 2 ≤ sizeLine; decide, [.int (k + (i : Nat)) tk, y], .cons ⟨_, rfl⟩ (.cons ru .nil), ⟨_, hT2, rfl, _, rfl⟩⟩
    have I1 : Inv X pins σ (upd H s.heap.objs.size (.tup [.int (k + (i : Nat)), x])) { s with heap := g2, toks := tk + 1 } := I.turnedNew (ch := [e, it]) (fun b ob hb q => (sb.2 b (fun z => hb (by simp [z]))).trans (hk b ob (fun z => hb (by simp [z])) (fun z => hb (by simp [z])) q)) hf (Nat.le_refl _) new
    refine ⟨.ref s.heap.objs.size, _, I1, rfl, ⟨_, x, rfl, I.hok.fresh (Nat.le_refl _), rfl, fun ys hy => by rw [I.list_inj hy hq]; exact hx⟩, ⟨⟨y, ?_⟩, st2.1.at fun o q => (sb.2 it nei.symm).trans q⟩, fun b hb => ?_⟩
    · rw [show k + ((i + 1 : Nat) : Int) = k + (i : Int) + 1 by omega]
      exact er2
    · have lb : b < s.heap.objs.size := by
        have hb' : b = e ∨ b = it := by simpa using hb
        rcases hb' with z | z
        · rw [z]; exact el
        · rw [z]; exact il
      rw [upd_ne (Nat.ne_of_lt lb)]
      exact (hf b hb).1
  done := by
    intro X hP hw hK hc i pins s σ H E I hf st hg
    subst hP hw hK
    obtain ⟨⟨old, er⟩, ti⟩ := st
    obtain ⟨xs, hq, hx⟩ := hg
    obtain ⟨its, rv, p, _⟩ := I.list hq
    have hl := rv.length
    exact lst_end (I.ok.hd hc) er ti p.isList (by simp; omega) fun g kg => ⟨rfl, I.turnedL (t' := s.toks) (ch := [e, it]) (fun b o hb q => kg b o (fun z => hb (by simp [z])) q) hf⟩
  self := fun A i s Q E st h => let ⟨⟨_, er⟩, _⟩ := st; wpAny_pyIter_enum er h
/-- a class of Python's own called with keywords -/
theorem with_kw {M : Model} {A : Around} {E : Value → Shared → Prop} {s : Shared} {env : Env} {pos : Pos} {T : String} {e : Expr} {rest : List Expr} {kws : List Keyword} {Q : Value → Shared → Prop}
    (h : wpAny M A (spliced (backTo pos (starEach (e :: rest) env))) (fun vs s1 => wpAny M A (evalAll ((backToKw pos (keywordEach kws env)).map (·.2))) (fun zs s2 => wpAny M A (call (.type T) vs (((backToKw pos (keywordEach kws env)).filterMap (·.1)).zip zs)) Q E s2) E s1) E s)
    (h1 : (backTo pos (starEach (e :: rest) env)).any (·.1) = false) (h2 : (backToKw pos (keywordEach kws env)).any (·.1.isNone) = false) (h3 : (backToKw pos (keywordEach kws env)).all (·.1.isSome) = true) (h4 : starEach (e :: rest) env = (false, eval e env) :: starEach rest env) :
    wpAny M A (callWith pos (.type T) [] (backTo pos (starEach (e :: rest) env)) (backToKw pos (keywordEach kws env))) Q E s := by
  have g : wpAny M A (evalArgs (.type T) true (backTo pos (starEach (e :: rest) env)) (backToKw pos (keywordEach kws env))) (fun a s1 => wpAny M A (call (.type T) ([] ++ a.pos) a.kw) Q E s1) E s := evalArgs_kw2 h3 h h4
  unfold callWith
  refine wpAny_bind (wpAny_holding (wpAny_mono g (fun a s1 r => wpAny_bind (wpAny_standAt ?_)) fun _ _ z => z))
  simp only [h1, h2, Bool.or_false]
  refine wpAny_bind (wpAny_pure ?_)
  exact wpAny_bind (wpAny_mono r (fun z s2 hz => wpAny_bind (wpAny_holding (wpAny_point (wpAny_pure hz)))) fun _ _ z => z)
def iEnumS (K : PySem.W.Frag) (ta tk : TA) : TI := fun σ H R => ta σ H fun vs H1 => tk σ H1 fun zs H2 => ∃ a xs k, vs = [.ref a] ∧ zs = [.int k] ∧ -(2 ^ 63) ≤ k ∧ k < 2 ^ 63 ∧ SqL K H2 a xs ∧ R (Its K a k) H2
theorem pi_enumS {X : Cx} {e : Expr} {ta tk : TA} {p pos tpos : Pos} {elts : List Expr} {kk : Nat} {kws : List Keyword} (hg : Gl X "enumerate") (hm : X.mg "enumerate" = none) (ha : PA X [e] ta) (hk : PK X kws tk)
    (h4 : starEach [e] X.env = [(false, eval e X.env)] := by rfl) (h1 : (backTo pos (starEach [e] X.env)).any (·.1) = false := by rfl) (h2 : (backToKw pos (keywordEach kws X.env)).any (·.1.isNone) = false := by rfl)
    (h3 : (backToKw pos (keywordEach kws X.env)).all (·.1.isSome) = true := by rfl) (h5 : (backToKw pos (keywordEach kws X.env)).filterMap (·.1) = [Str.ofString "start"] := by rfl) :
    PI X (.Tuple elts kk tpos) (.Call (.Name "enumerate" p) [e] kws pos) (iEnumS X.K ta tk) := by
  refine ⟨fun pins s σ H R I h => ?_⟩
  refine wpAny_Call_Name_kw (ld_blt I hg hm boot_enumerate (with_kw (thn (ha.run pos pins s σ H _ I h) fun us s1 ⟨vs, H1, I1, r1, q1⟩ => thn (hk.run pos pins s1 σ H1 _ I1 q1) fun ws s2 ⟨zs, H2, I2, r2, q2⟩ => ?_) h1 h2 h3 h4))
  obtain ⟨a, xs, k, ev, ez, k0, k1, hq, q⟩ := q2
  subst ev ez
  rw [h5]
  cases r1 with
  | cons r rr =>
    cases rr
    cases r
    cases r2 with
    | cons z zz =>
      cases zz
      obtain ⟨t, rfl⟩ := z
      obtain ⟨its, rv, pt, _⟩ := I2.list hq
      obtain ⟨ot, hot, _⟩ := id pt.isList
      have al : a < s2.heap.objs.size := Heap.lt_size hot
      refine enum_begins_start (begins_list a its.toArray) pt.isList k0 k1 fun g er ti sz kg => wpAny_pyIter_enum er ?_
      have I3 : Inv X pins σ H2 { s2 with heap := g } := I2.kept (t' := s2.toks) kg
      refine ⟨s2.heap.objs.size + 1, [s2.heap.objs.size + 1, s2.heap.objs.size], _, _, H2, rfl, I3, turn_its a (s2.heap.objs.size + 1) s2.heap.objs.size (Nat.succ_ne_self _) (Nat.ne_of_gt (Nat.lt_succ_of_lt al)) (Nat.ne_of_lt al), ⟨⟨.none, ?_⟩, ⟨_, ti, rfl, rfl⟩⟩, fun b hb => ?_, q⟩
      · rw [show k + ((0 : Nat) : Int) = k by omega]
        exact er
      have hb' : b = s2.heap.objs.size + 1 ∨ b = s2.heap.objs.size := by simpa using hb
      have le : s2.heap.objs.size ≤ b := by
        rcases hb' with z | z
        · rw [z]; exact Nat.le_add_right _ _
        · rw [z]; exact Nat.le_refl _
      exact I2.fpOk le (I2.hok.fresh le)
theorem walk_its {K : PySem.W.Frag} {a : Addr} {xs : List V} {k : Int} : Walk (Its K a k) xs.length (fun H => SqL K H a xs) (YPair (fun i => some (.int (k + (i : Nat)))) (fun i => xs[i]?)) := by
  refine ⟨fun i _ hi q => ⟨xs, xs[i], q, by simp [hi]⟩, fun _ q => ⟨xs, q, Nat.le_refl _⟩, fun i H v H' _ q y => ?_⟩
  obtain ⟨T, x, y1, y2, y3, y4⟩ := y
  exact ⟨T, .int (k + (i : Nat)), x, y1, y2, y3, rfl, y4 xs q⟩
end Eu

/-! len(set(xs)) of a list of texts: how many different ones. -/
namespace Sl
open PySem PySem.Spec PyProof.Rows
section
variable {prog : Program} {w : World} {A : Around} {E : Value → Shared → Prop} {s : Shared}
/-- c different ones among the first i: c = i just if they differ -/
def Cnt (xs : List Str) (i c : Nat) : Prop := c ≤ i ∧ (c = i ↔ (xs.take i).Nodup)
theorem cnt_zero (xs : List Str) : Cnt xs 0 0 := ⟨Nat.le_refl _, by simp⟩
theorem cnt_succ {xs : List Str} {i c : Nat} {x : Str} (h : Cnt xs i c) (hx : xs[i]? = some x) : Cnt xs (i + 1) (if decide (x ∈ xs.take i) = true then c else c + 1) := by
  obtain ⟨h1, h2⟩ := h
  have e : xs.take (i + 1) = xs.take i ++ [x] := by rw [List.take_add_one, hx]; rfl
  by_cases m : x ∈ xs.take i
  · rw [decide_eq_true m, if_pos rfl]
    refine ⟨by omega, ⟨fun z => absurd z (by omega), fun z => ?_⟩⟩
    rw [e, List.nodup_append] at z
    exact absurd rfl (z.2.2 x m x (by simp))
  · rw [decide_eq_false m, if_neg (by decide)]
    refine ⟨by omega, ?_⟩
    rw [e, List.nodup_append]
    constructor
    · intro z
      refine ⟨h2.mp (by omega), by simp, fun a ha b hb q => m ?_⟩
      rw [List.mem_singleton] at hb
      rw [← hb, ← q]
      exact ha
    · intro z
      have := h2.mpr z.1
      omega
abbrev so (led : Bool) : Obj := { cls := .type "set", dict := none, data := .set #[] 0 (.fresh 0 0 led) }
theorem at_keep {h h' : Heap} {S : Addr} {f : Str → Bool} {n : Nat} (R : h.SetOf (PySem.strKind prog w) S f n) (k : ∀ o, h.get? S = some o → h'.get? S = some o) : h'.SetOf (PySem.strKind prog w) S f n := by
  obtain ⟨o, es, ep, t, ho, r⟩ := R
  exact ⟨o, es, ep, t, k _ ho, r⟩
theorem fill {R : Result → Shared → Prop} {I : Addr} {fp wr : List Addr} {G : Array GenState → Array GenState → Prop} {n : Nat} {P : Nat → Value → Prop} {St : Nat → Shared → Prop}
    (W : WalksS prog w A.in1 I fp wr G n P St) (S : Addr) (hSf : S ∉ fp) (xs : List Str) (hsz : xs.length = n) (hb : n + 1 < scanBound) (hval : ∀ i v, P i v → ∃ x t, xs[i]? = some x ∧ v = .str x t) :
    ∀ (k i : Nat) (s : Shared), n - i = k → i ≤ n → St i s → (∃ c, Cnt xs i c ∧ s.heap.SetOf (PySem.strKind prog w) S (fun y => decide (y ∈ xs.take i)) c) →
      (∀ s' c, Moved (S :: wr) G s s' → Cnt xs n c → s'.heap.SetOf (PySem.strKind prog w) S (fun y => decide (y ∈ xs.take n)) c → R (.ok (.ret .none)) s') →
      codeAny (model prog w) A (.builtin "set.update.loop" ⟨[.ref S, .ref I], []⟩) R s := by
  have nw : S ∉ wr := fun h => hSf (W.sub _ h)
  have more : ∀ b ∈ wr, b ∈ S :: wr := fun b hb => List.mem_cons_of_mem _ hb
  intro k
  induction k with
  | zero =>
    intro i s hk hi st ⟨c, hc, hS⟩ hR
    have e : i = n := by omega
    subst e
    refine codeAny_builtin PyProof.Rows.F.entry_set_update_loop ?_
    rw [Around.under_plainId PyProof.Rows.F.plain_set_update_loop _]
    show wpAny _ A.in1 (pyNext (.ref I) >>= _) _ _ s
    refine wpAny_bind (W.done s _ _ st fun s' hm => ?_)
    show wpAny _ A.in1 (ret Value.none) _ _ s'
    exact wpAny_pure (hR s' c (hm.mono more) hc (at_keep hS fun o e => hm.heap S o nw e))
  | succ k ih =>
    intro i s hk hi st ⟨c, hc, hS⟩ hR
    have lt : i < n := by omega
    refine codeAny_builtin PyProof.Rows.F.entry_set_update_loop ?_
    rw [Around.under_plainId PyProof.Rows.F.plain_set_update_loop _]
    show wpAny _ A.in1 (pyNext (.ref I) >>= _) _ _ s
    refine wpAny_bind (W.item i s _ _ lt st fun v s' hP st' hm => ?_)
    obtain ⟨x, t, hx, rfl⟩ := hval i v hP
    have hS1 := at_keep (h' := s'.heap) hS fun o e => hm.heap S o nw e
    show wpAny _ A.in1 (holding [Value.str x t] (setAdd S (.str x t)) >>= _) _ _ s'
    refine wpAny_bind (wpAny_holding ?_)
    unfold setAdd
    refine wpAny_holding ?_
    refine wpAny_bind ((PySem.strKind prog w).pyHash (k := x) (strKind_is _ _ _ _) ?_)
    refine wpAny_setAddHashed_of (knd := PySem.strKind prog w) (s := { s' with toks := s'.toks + 1 }) (strKind_is _ _ _ _) rfl hS1 (by have := hc.1; omega) fun g same hS2 => ?_
    have hS3 := SetOf_congr (S' := fun y => decide (y ∈ xs.take (i + 1))) hS2 (fun y => by
      rw [List.take_add_one, hx]
      simp [List.mem_append]) rfl
    refine wpAny_pure ⟨plainId_quiet PyProof.Rows.F.plain_set_update_loop _, ih (i + 1) _ (by omega) lt (W.frame _ s' _ _ st' (Nat.le_succ _) fun b hb o e => ?_) ⟨_, cnt_succ hc hx, hS3⟩ fun s2 c2 m2 hc2 hS4 => ?_⟩
    · rw [same.2 b (fun h : b = S => hSf (by rw [← h]; exact hb))]
      exact e
    · refine hR s2 c2 (Moved.trans W.gtrans ((hm.mono more).then_heap (Nat.le_succ _) fun b o hb e => ?_) m2) hc2 hS4
      rw [same.2 b (fun h : b = S => hb (by rw [h]; exact List.mem_cons_self))]
      exact e
set_option maxHeartbeats 3200000 in
theorem set_strs {l : Addr} {its : Array Value} {xs : List Str} {Q : Value → Shared → Prop} (hh : A.handled = none) (hl : s.heap.IsList l its) (hi : PyProof.Rows.StrsAre its.toList xs) (hb : xs.length + 1 < scanBound)
    (q : ∀ (g : Heap) (tk c : Nat), Cnt xs xs.length c → g.SetOf (PySem.strKind prog w) s.heap.objs.size (fun y => decide (y ∈ xs.take xs.length)) c → (∀ b o, b < s.heap.objs.size → s.heap.get? b = some o → g.get? b = some o) → Q (.ref s.heap.objs.size) { s with heap := g, toks := tk }) :
    wpAny (model prog w) A (call (.type "set") [.ref l]) Q E s := by
  obtain ⟨c0, tl0, m0⟩ := PySem.F.called_set.mro
  have a1 := PySem.F.called_set.made
  have a2 := PySem.F.called_set.sub
  refine wpAny_call (codeAny_of_tree ?_)
  show wpAny _ _ (callAny (.type "set") _) _ _ _
  refine wpAny_pure ⟨Code.quiet_builtin _ (by decide +kernel), codeAny_builtin PySem.F.entry_type_call ?_⟩
  rw [Around.under_plain (weight_type_call_type "set" [.ref l] []) rfl]
  have a3 := PySem.F.called_set.notType
  have a4 := PySem.F.called_set.canCreate
  have a5 := PySem.F.typeCall_set_1 (.ref l)
  repeat (any_goals (first | assumption | wp_step))
  refine codeAny_mono (code_set_new_1 (.ref l) (E := E) (Q₁ := fun ob s₁ => ∃ led : Bool, ob = .ref s.heap.objs.size ∧ s₁ = { s with heap := s.heap.push { cls := .type "set", dict := none, data := .set #[] 0 (.fresh 0 0 led) } }) fun led => ⟨led, rfl, rfl⟩) fun r s₁ hr => ?_
  cases r with
  | error e => exact hr
  | ok fl =>
    cases fl with
    | ret ob =>
      obtain ⟨led, rfl, rfl⟩ := hr
      generalize hso : ({ cls := .type "set", dict := none, data := .set #[] 0 (.fresh 0 0 led) } : Obj) = so
      have hfr : so.isFreed = false := by rw [← hso]; rfl
      have b1 : (s.heap.push so).get? s.heap.objs.size = some so := Heap.get?_push_size _ hfr
      have b2 : Shared.TypeIs { s with heap := s.heap.push so } (.ref s.heap.objs.size) "set" := ⟨_, b1, by rw [← hso]⟩
      have b3 := PySem.F.called_set.init.lookup
      have b4 := PySem.F.called_set.init.bind (.ref s.heap.objs.size)
      repeat (any_goals (first | assumption | wp_step))
      refine codeAny_mono (codeAny_call_builtin (R := wants (fun r s₂ => r = .none ∧ ∃ g tk c, s₂ = { s with heap := g, toks := tk } ∧ Cnt xs xs.length c ∧ g.SetOf (PySem.strKind prog w) s.heap.objs.size (fun y => decide (y ∈ xs.take xs.length)) c ∧
          (∀ b o, b < s.heap.objs.size → s.heap.get? b = some o → g.get? b = some o)) E) PySem.F.called_set.init.plain PySem.F.entry_set_init (check_set_init_1 b2 ?_)) fun r₂ s₂ hr₂ => ?_
      · obtain ⟨ol, hol, hcl, nl, hdl⟩ := hl
        obtain ⟨ocls, odict, odata, oslots⟩ := ol
        simp only at hcl hdl
        subst hcl hdl
        have hol' : (s.heap.push so).get? l = some { cls := .type "list", dict := odict, data := .seq its nl, slots := oslots } := Heap.get?_push_of_some _ hol
        have c1 := PySem.F.sub_list_set
        have c2 := PySem.F.sub_list_frozenset
        have c3 : (Value.type "list" == Value.type "dict") = false := by decide
        have hl1 : (s.heap.push so).IsList l its := ⟨_, hol', rfl, nl, rfl⟩
        unfold Builtin.«set.__init__» noKeywords Builtin.Frozenset.updateFrom
        generalize hPI : pyIter = PI
        have ll : l < s.heap.objs.size := Heap.lt_size hol
        have nI : ∀ ob : Obj, l ≠ (s.heap.push ob).objs.size := fun ob => by
          rw [Heap.size_push]
          exact Nat.ne_of_lt (Nat.lt_succ_of_lt ll)
        have nS : ∀ ob : Obj, s.heap.objs.size ∉ [(s.heap.push ob).objs.size, l] := fun ob => by
          rw [Heap.size_push]
          simp only [List.mem_cons, List.mem_singleton, List.not_mem_nil, or_false, not_or]
          exact ⟨Nat.ne_of_lt (Nat.lt_succ_self _), Nat.ne_of_gt ll⟩
        have nB : ∀ (ob : Obj) (b : Addr), b < s.heap.objs.size → b ≠ (s.heap.push ob).objs.size := fun ob b lb => by
          rw [Heap.size_push]
          exact Nat.ne_of_lt (Nat.lt_succ_of_lt lb)
        subst hso
        wp_walk
        subst hPI
        refine wpAny_pyIter_list hl1 ?_
        refine wpAny_bind (wpAny_runValue ?_)
        have hh3 : A.in1.in1.in1.handled = none := by simp [hh]
        have sz : xs.length = its.size := by rw [← StrsAre.len_eq hi, Array.length_toList]
        have hval : ∀ (i : Nat) (v : Value), its[i]? = some v → ∃ x t, xs[i]? = some x ∧ v = .str x t := fun i v hv => by
          have li : i < xs.length := by
            rw [sz]
            exact (Array.getElem?_eq_some_iff.mp hv).1
          obtain ⟨t, e⟩ := SS.strs_at hi i v (by rw [Array.getElem?_toList]; exact hv)
          refine ⟨xs[i], t, List.getElem?_eq_getElem li, ?_⟩
          rw [e, List.getD_eq_getElem?_getD, List.getElem?_eq_getElem li]
          rfl
        refine fill ((Walks.list hh3 _ l (nI (so led)) its).toS) s.heap.objs.size (nS (so led)) xs sz (by rw [← sz]; exact hb) hval (its.size - 0) 0 _ (by omega) (Nat.zero_le _)
          ⟨⟨_, Heap.get?_push_size _ rfl, rfl, rfl⟩, (hl1.push _)⟩ ?hS0 ?hR
        case hS0 =>
          exact ⟨0, cnt_zero xs, PyProof.Rows.SetOf_congr ((PyProof.Rows.setObjOf_fresh (knd := PySem.strKind prog w) led).setOf (Heap.get?_push_of_some _ b1) (by unfold scanBound; omega)) (fun _ => by simp) rfl⟩
        case hR =>
          intro s' c' hm hc' hS'
          obtain ⟨g, g', d', tk', os'⟩ := s'
          have eg : g' = s.gens := hm.gens
          have ed : d' = s.drawn := hm.drawn
          have eo : os' = s.os := hm.os
          subst eg ed eo
          show wpAny _ _ _ _ _ _
          refine wpAny_pure ?_
          show wpAny _ _ (ret Value.none) _ _ _
          rw [← sz] at hc' hS'
          refine wpAny_pure ⟨rfl, g, tk', c', rfl, hc', hS', fun b o lb e => ?_⟩
          have n1 : b ≠ s.heap.objs.size := Nat.ne_of_lt lb
          have n2 := nB (so led) b lb
          exact hm.heap b o (by simp only [List.mem_cons, List.mem_singleton, List.not_mem_nil, or_false, not_or]; exact ⟨n1, n2⟩) (Heap.get?_push_of_some _ (Heap.get?_push_of_some _ e))
      · cases r₂ with
        | error e => exact hr₂
        | ok fl₂ =>
          cases fl₂ with
          | ret r =>
            obtain ⟨rfl, g, tk, c', rfl, hc', hS', hk'⟩ := hr₂
            repeat (any_goals (first | assumption | wp_step))
            exact q _ _ _ hc' hS' hk'
          | _ => exact hr₂.elim
    | _ => exact hr.elim
end
end Sl
namespace Sl
open PySem PySem.Spec PyProof.Rows L2
section
variable {X : Cx}
def tLen (K : PySem.W.Frag) (ta : TE) : TE := fun σ H Q => ta σ H fun x H1 => ∃ l, ∃ xs : List Str, x = .ref l ∧ SqL K H1 l (xs.map V.str) ∧ xs.length ≤ 4000 ∧ ∀ c, Cnt xs xs.length c → Q (.int (c : Nat)) H1
theorem pe_len {a : Expr} {ta : TE} {p p2 q pos : Pos} (hc : X.calm = true) (hg : Gl X "len") (hm : X.mg "len" = none) (hg2 : Gl X "set") (hm2 : X.mg "set" = none) (ha : PE X a ta)
    (na : starEach [a] X.env = (false, eval a X.env) :: starEach [] X.env := by rfl) : PE X (.Call (.Name "len" p) [.Call (.Name "set" p2) [a] [] q] [] pos) (tLen X.K ta) := by
  refine ⟨fun pins s σ H Q I h => ?_⟩
  refine Call_ (ld_blt I hg hm boot_len ?_)
  refine PyProof.Rows.callWith_builtin1 (PyProof.Rows.args_cons ?_ rfl) rfl rfl
  refine Call_ (ld_blt I hg2 hm2 boot_set ?_)
  refine PyProof.Rows.callWith_type1 (PyProof.Rows.args_cons (thn (ha.run pins s σ H _ I h) fun v s1 ⟨x, H1, I1, r1, q1⟩ => PyProof.Rows.args_nil ?_) na) na rfl
  obtain ⟨l, xs, ev, hq, hl, k⟩ := q1
  subst ev
  cases r1
  obtain ⟨its, r, pl, hz⟩ := I1.list hq
  refine set_strs (I1.ok.hd hc) pl.isList (by simpa using strsAre_of r) (by unfold scanBound; omega) fun g tk c hcn hS hk => ?_
  refine PyProof.Rows.args_nil ?_
  obtain ⟨o, es, ep, t, ho, hex, hd, _, _, _, hf, hn⟩ := hS
  have I2 : Inv X pins σ H1 { s1 with heap := g, toks := tk } := I1.kept fun b o e => hk b o (Heap.lt_size e) e
  have := hcn.1
  refine call_len_set ho hex hd hf (by rw [hn] <;> omega) ⟨.int (c : Nat), H1, I2.tok _, ⟨_, by rw [hn]⟩, k c hcn⟩
end
/-- xs[i], for xs[i] op= e -/
theorem get_list {X : Cx} : PGet X (rIxL X.K) := by
  intro pins s σ H o i ov iv Q I ro ri h
  obtain ⟨p, xs, k, z, rfl, rfl, hq, he, q⟩ := h
  cases ro
  obtain ⟨t, rfl⟩ := ri
  obtain ⟨its, r, pl, hz⟩ := I.list hq
  obtain ⟨j, h1, h2, h3, h4, h5⟩ := atI_get he
  obtain ⟨u, eu, ru⟩ := r.get h2
  have hl := r.length
  have hn := line63
  have fin : EP X pins σ Q u s := ⟨z, H, I, ru, q⟩
  by_cases h0 : 0 ≤ k
  · have hj : k.toNat = j := by
      rw [seqIndex_of h0 h5] at h1
      exact Option.some.inj h1
    exact wpAny_getItem_list pl.isList h0 (by omega) (by rw [hj]; simpa using eu) fin
  · have hj : (k + (its.toArray.size : Int)).toNat = j := by
      rw [seqIndex_neg (by omega) h4] at h1
      rw [List.size_toArray, ← hl]
      exact Option.some.inj h1
    exact wpAny_getItem_list_neg pl.isList (by omega) (by rw [List.size_toArray] <;> omega) (by omega) (by rw [hj]; simpa using eu) fin
end Sl

/-! What is walked while an exception is handled: lists, texts, enumerate of a list; all, any, sum there. -/
namespace Hw
open PySem PySem.Spec PyProof.Rows L2 L2H HotX
section
variable {prog : Program} {w : World} {A : Around} {E : Value → Shared → Prop} {s : Shared}
/-- the walk's end is told while x1's exception is handled -/
theorem stop_hot {α : Type} {x1 : Addr} {Q : α → Shared → Prop} (hot : HotAt A x1 s.heap)
    (go : ∀ g a o, (∀ b u, s.heap.get? b = some u → g.get? b = some u) → g.get? a = some o → o.cls = .type "StopIteration" → E (.ref a) { s with heap := g }) :
    wpAny (model prog w) A (newExc (.type "StopIteration") [] >>= fun e => (raiseNew e : Sem α)) Q E s := by
  obtain ⟨hh, ob, vb, e1, e2, e3⟩ := hot
  refine wpAny_bind ?_
  simp only [newExc, newTuple]
  refine wpAny_bind (wpAny_newObj_type ?_ (by first | size_fits | decide))
  have e4 := Heap.get?_push_of_some { cls := .type "tuple", data := .seq #[] } e1
  refine wpAny_bind (m := firstArgMember _ _) (wpAny_of_eq (a := Value.none) (by first | rfl | (simp only [firstArgMember]; rfl)) (wpAny_newObj_type ?_ (by first | size_fits | decide)))
  refine raiseNew_hot ⟨hh, ob, vb, Heap.get?_push_of_some _ (Heap.get?_push_of_some _ e1), e2, e3⟩ (Nat.ne_of_lt (Heap.lt_size (Heap.get?_push_of_some _ e1))) (Heap.get?_push_size _ rfl) rfl
    (by first | (simp; done) | (simp; omega) | (simp only [Array.size_append]; simp; omega)) ?_
  refine go _ _ _ (fun b u z => ?_) (Heap.get?_update_self _ (Heap.get?_push_size _ rfl) rfl) rfl
  have l := Heap.lt_size (Heap.get?_push_of_some { cls := .type "tuple", data := .seq #[] } z)
  rw [Heap.get?_update_other _ _ (Nat.ne_of_gt (Heap.lt_size (Heap.get?_push_of_some _ z)))]
  exact Heap.get?_push_of_some _ (Heap.get?_push_of_some _ z)
theorem hot_upd {x1 it : Addr} {f : Obj → Obj} (hot : HotAt A x1 s.heap) (ne : x1 ≠ it) : HotAt A x1 (s.heap.update it f) := by
  obtain ⟨hh, ob, vb, e1, e2, e3⟩ := hot
  exact ⟨hh, ob, vb, (Heap.get?_update_other _ _ (Ne.symm ne)).trans e1, e2, e3⟩
theorem upd_then {it : Addr} {f : Obj → Obj} {g h : Heap} (k : ∀ b u, (h.update it f).get? b = some u → g.get? b = some u) : Heap.ExtBut it h g := fun b u ne e => k b u ((Heap.get?_update_other _ _ (Ne.symm ne)).trans e)
/-- the end of a list's walk -/
theorem list_end {it l x1 : Addr} {i : Nat} {items : Array Value} {Q : Option Value → Shared → Prop} (hot : HotAt A x1 s.heap) (ne : x1 ≠ it) (st : s.heap.IsListIter it l i) (hl : s.heap.IsList l items) (hx : items[i]? = none)
    (q : ∀ g, Heap.ExtBut it s.heap g → Q none { s with heap := g }) : wpAny (model prog w) A (pyNext (.ref it)) Q E s := by
  obtain ⟨o, e1, e2, e3⟩ := id st
  obtain ⟨ol, f1, _, n, f3⟩ := hl
  unfold pyNext
  refine wpAny_bind (wpAny_attempt (wpAny_callSpecial?_slot (name := Str.ofString "__next__") st.typeIs slot_listiter_next (wpAny_call_entry slot_listiter_next st.typeIs entry_listiter_next ?_ (args_listiter_next _))))
  show wpAny _ _ (field (.ref it) 0 >>= _) _ _ s
  refine wpAny_bind (wpAny_field e1 e3 (x := .ref l) rfl ?_)
  rw [if_neg (show ¬ ((Value.ref l == Value.none) = true) by simp)]
  refine wpAny_bind (wpAny_field e1 e3 (x := .int i 0) rfl ?_)
  show wpAny _ _ (seqItems? (.ref l) >>= _) _ _ s
  refine wpAny_bind (wpAny_seqItems f1 f3 ?_)
  simp only [Int.toNat_natCast, hx]
  refine wpAny_bind (wpAny_rule (wpAny_bind (wpAny_setField e1 e3 (by simp) (stop_hot (hot_upd (s := s) hot ne) fun g a o2 k g1 g2 => ?_))))
  refine wpAny_bind (wpAny_isInstance (T := "StopIteration") (b := true) ⟨o2, g1, g2⟩ isSubtype_stop ?_)
  exact wpAny_pure (q g (upd_then k))
theorem list_endN {it l x1 : Addr} {i : Nat} {items : Array Value} {Q : Value → Shared → Prop} (hot : HotAt A x1 s.heap) (ne : x1 ≠ it) (st : s.heap.IsListIter it l i) (hl : s.heap.IsList l items) (hx : items[i]? = none)
    (q : ∀ g a, Heap.ExtBut it s.heap g → (∃ o, g.get? a = some o ∧ o.cls = .type "StopIteration") → E (.ref a) { s with heap := g }) : wpAny (model prog w) A (Builtin.SmallTypes.nextOf (.ref it)) Q E s := by
  obtain ⟨o, e1, e2, e3⟩ := id st
  obtain ⟨ol, f1, _, n, f3⟩ := hl
  unfold Builtin.SmallTypes.nextOf
  refine wpAny_bind (wpAny_callSpecial?_slot (name := Str.ofString "__next__") st.typeIs slot_listiter_next (wpAny_call_entry slot_listiter_next st.typeIs entry_listiter_next ?_ (args_listiter_next _)))
  show wpAny _ _ (field (.ref it) 0 >>= _) _ _ s
  refine wpAny_bind (wpAny_field e1 e3 (x := .ref l) rfl ?_)
  rw [if_neg (show ¬ ((Value.ref l == Value.none) = true) by simp)]
  refine wpAny_bind (wpAny_field e1 e3 (x := .int i 0) rfl ?_)
  show wpAny _ _ (seqItems? (.ref l) >>= _) _ _ s
  refine wpAny_bind (wpAny_seqItems f1 f3 ?_)
  simp only [Int.toNat_natCast, hx]
  exact wpAny_bind (wpAny_rule (wpAny_bind (wpAny_setField e1 e3 (by simp) (stop_hot (hot_upd (s := s) hot ne) fun g a o2 k g1 g2 => q g a (upd_then k) ⟨o2, g1, g2⟩))))
/-- .. of an enumerate over a list -/
theorem enum_end {e it l x1 : Addr} {i : Nat} {items : Array Value} {old : Value} {Q : Option Value → Shared → Prop} (hot : HotAt A x1 s.heap) (ne : x1 ≠ it) (he : IsEnum s.heap e it i old) (st : s.heap.IsListIter it l i) (hl : s.heap.IsList l items) (hx : items[i]? = none)
    (q : ∀ g, Heap.ExtBut it s.heap g → Q none { s with heap := g }) : wpAny (model prog w) A (pyNext (.ref e)) Q E s := by
  have ty : s.TypeIs (.ref e) "enumerate" := ⟨_, he, rfl⟩
  unfold pyNext
  refine wpAny_bind (wpAny_attempt (wpAny_callSpecial?_slot (name := Str.ofString "__next__") ty F.slot_enumerate_next (wpAny_call_entry F.slot_enumerate_next ty F.entry_enumerate_next ?_ (F.args_enumerate_next_1 _))))
  show wpAny _ _ (field (.ref e) 2 >>= _) _ _ _
  refine wpAny_bind (wpAny_field he rfl (x := .ref it) rfl (wpAny_bind (list_endN (A := A.in1) hot ne st hl hx fun g a k ⟨o, g1, g2⟩ => ?_)))
  exact wpAny_bind (wpAny_isInstance (T := "StopIteration") (b := true) ⟨o, g1, g2⟩ isSubtype_stop (wpAny_pure (q g k)))
/-- .. of a text -/
theorem ascii_end {it x1 : Addr} {x : Str} {t : Tok} {i : Nat} {Q : Option Value → Shared → Prop} (hot : HotAt A x1 s.heap) (ne : x1 ≠ it) (st : s.heap.IsStrIter it "str_ascii_iterator" x t i) (hx : x.cps[i]? = none)
    (q : ∀ g, Heap.ExtBut it s.heap g → Q none { s with heap := g }) : wpAny (model prog w) A (pyNext (.ref it)) Q E s := by
  obtain ⟨o, e1, e2, e3⟩ := id st
  unfold pyNext
  refine wpAny_bind (wpAny_attempt (wpAny_callSpecial?_slot (name := Str.ofString "__next__") st.typeIs F.slot_str_ascii_iterator_next (wpAny_call_entry F.slot_str_ascii_iterator_next st.typeIs F.entry_str_ascii_iterator_next ?_ (F.args_str_ascii_iterator_next_1 _))))
  show wpAny _ _ (field (.ref it) 0 >>= _) _ _ s
  refine wpAny_bind (wpAny_field e1 e3 (x := .str x t) rfl ?_)
  show wpAny _ _ (do let v ← field (.ref it) 1; _ : Sem _) _ _ s
  refine wpAny_bind (wpAny_field e1 e3 (x := .int i 0) rfl ?_)
  simp only [Int.toNat_natCast, hx]
  refine wpAny_bind (wpAny_rule (wpAny_bind (wpAny_setField e1 e3 (by simp) (wpAny_bind (wpAny_letGo (stop_hot (hot_upd (s := s) hot ne) fun g a o2 k g1 g2 => ?_))))))
  exact wpAny_bind (wpAny_isInstance (T := "StopIteration") (b := true) ⟨o2, g1, g2⟩ isSubtype_stop (wpAny_pure (q g (upd_then k))))
theorem wide_end {it x1 : Addr} {x : Str} {t : Tok} {i : Nat} {Q : Option Value → Shared → Prop} (hot : HotAt A x1 s.heap) (ne : x1 ≠ it) (st : s.heap.IsStrIter it "str_iterator" x t i) (hx : x.cps[i]? = none)
    (q : ∀ g, Heap.ExtBut it s.heap g → Q none { s with heap := g }) : wpAny (model prog w) A (pyNext (.ref it)) Q E s := by
  obtain ⟨o, e1, e2, e3⟩ := id st
  unfold pyNext
  refine wpAny_bind (wpAny_attempt (wpAny_callSpecial?_slot (name := Str.ofString "__next__") st.typeIs F.slot_str_iterator_next (wpAny_call_entry F.slot_str_iterator_next st.typeIs F.entry_str_iterator_next ?_ (F.args_str_iterator_next_1 _))))
  show wpAny _ _ (field (.ref it) 0 >>= _) _ _ s
  refine wpAny_bind (wpAny_field e1 e3 (x := .str x t) rfl ?_)
  show wpAny _ _ (do let v ← field (.ref it) 1; _ : Sem _) _ _ s
  refine wpAny_bind (wpAny_field e1 e3 (x := .int i 0) rfl ?_)
  simp only [Int.toNat_natCast, hx]
  refine wpAny_bind (wpAny_rule (wpAny_bind (wpAny_setField e1 e3 (by simp) (wpAny_bind (wpAny_letGo (stop_hot (hot_upd (s := s) hot ne) fun g a o2 k g1 g2 => ?_))))))
  exact wpAny_bind (wpAny_isInstance (T := "StopIteration") (b := true) ⟨o2, g1, g2⟩ isSubtype_stop (wpAny_pure (q g (upd_then k))))
end
/-- a list walked by the library's own loops: x1's object stands -/
theorem walks {prog : Program} {w : World} {A : Around} {x1 : Addr} {o1 : Obj} {vs1 : Array Value} (hh : A.handled = some (.ref x1)) (d1 : o1.data = .fields vs1) (c1 : vs1[2]? = some .none) (I ax : Addr) (hne : ax ≠ I) (nx : x1 ≠ I) (items : Array Value) :
    Walks prog w A I [I, ax, x1] [I] items.size (fun i v => items[i]? = some v) (fun i h => (h.IsListIter I ax i ∧ h.IsList ax items) ∧ h.get? x1 = some o1) where
  sub := fun b hb => by simp at hb; simp [hb]
  frame := fun _ _ _ st k => ⟨⟨st.1.1.at fun o e => k I (by simp) o e, st.1.2.at fun o e => k ax (by simp) o e⟩, k x1 (by simp) _ st.2⟩
  item := fun i s Q E lt st q => by
    refine wpAny_pyNext_list_item st.1.1 st.1.2 (x := items[i]) (by simp [lt]) fun g st2 sb => ?_
    exact q _ g s.toks (by simp [lt]) ⟨⟨st2, st.1.2.extBut sb.extBut hne⟩, sb.extBut x1 _ nx st.2⟩ fun b o hb e => sb.extBut b o (fun z => hb (by simp [z])) e
  done := fun s Q E st q => list_end ⟨hh, o1, vs1, st.2, d1, c1⟩ nx st.1.1 st.1.2 (by simp) fun g k => q g s.toks fun b o hb e => k b o (fun z => hb (by simp [z])) e
  self := fun _ _ _ _ st q => wpAny_pyIter_listiter st.1.1 q
section
variable {P : Program} {w : World} {K : PySem.W.Frag} {tg : Expr}
theorem hot_off {X : Cx} {pins : List (Addr × Obj)} {σ : L2.St} {H : Hp} {s : Shared} {fp : List Addr} (c : HotC X) (I : Inv X pins σ H s) (hf : ∀ b ∈ fp, FpOk X pins H b) : ∃ x1, HotAt X.A x1 s.heap ∧ ∀ b ∈ fp, x1 ≠ b := by
  obtain ⟨p, ⟨hh, v1, e1, c1⟩, hp⟩ := c
  exact ⟨p.1, ⟨hh, p.2, v1, (I.pin p (List.mem_append_left _ hp)).1, e1, c1⟩, fun b hb => (hf b hb).2.2.2.2.2 p (List.mem_append_left _ hp)⟩
theorem turn_listH (a it : Addr) : TurnH P w K tg (Itl K a) [it] it (fun i h => h.IsListIter it a i) where
  mem := by simp
  obj := fun i h st b hb => by
    obtain rfl : b = it := by simpa using hb
    obtain ⟨o, e, c, d⟩ := st
    exact ⟨o, e, fun v z => by rw [d] at z; cases z⟩
  keep := fun i h h' st k => st.at fun o e => k it (by simp) o e
  item := by
    rintro X rfl rfl rfl hc i pins s σ H E I hf st ⟨xs, x, hq, hx⟩
    obtain ⟨its, rv, p, hz⟩ := I.list hq
    obtain ⟨u, hu, ru⟩ := rv.get hx
    obtain ⟨f0, f1, f2, f3, f4, f5⟩ := hf it (by simp)
    refine wpAny_pyNext_list_item st p.isList (x := u) (by simpa using hu) fun g st' sb => ?_
    have J : Inv X pins σ H { s with heap := g } := I.turned (t' := s.toks) (fun b o hb e => (sb.2 b hb).trans e) f0 f1 f3 f4 f5
    obtain ⟨o, e, c, d⟩ := id st'
    exact ⟨u, rfl, go_of (s := { s with heap := g }) e c d (by decide) ⟨x, H, J, ru, ⟨rfl, fun ys hy => by rw [I.list_inj hy hq]; exact hx⟩, st', fun b hb => (hf b hb).1⟩⟩
  done := by
    rintro X rfl rfl rfl hc i pins s σ H E I hf st ⟨xs, hq, hx⟩
    obtain ⟨its, rv, p, hz⟩ := I.list hq
    obtain ⟨x1, hot, off⟩ := hot_off hc I hf
    obtain ⟨f0, f1, f2, f3, f4, f5⟩ := hf it (by simp)
    have hl := rv.length
    exact list_end hot (off it (by simp)) st p.isList (by simp; omega) fun g k => ⟨rfl, I.turned (t' := s.toks) (fun b o hb e => k b o hb e) f0 f1 f3 f4 f5⟩
  self := fun _ _ _ _ _ st h => wpAny_pyIter_listiter st h
theorem turn_strH (it : Addr) (x : Str) (t : Tok) (ty : String) (hty : ty = "str_ascii_iterator" ∨ ty = "str_iterator") : TurnH P w K tg (Its x) [it] it (fun i h => h.IsStrIter it ty x t i) where
  mem := by simp
  obj := fun i h st b hb => by
    obtain rfl : b = it := by simpa using hb
    obtain ⟨o, e, c, d⟩ := st
    exact ⟨o, e, fun v z => by rw [d] at z; cases z⟩
  keep := fun i h h' st k => let ⟨o, ho, r⟩ := st; ⟨o, k it (by simp) o ho, r⟩
  item := by
    rintro X rfl rfl rfl hc i pins s σ H E I hf st hg
    obtain ⟨f0, f1, f2, f3, f4, f5⟩ := hf it (by simp)
    have lt : i < x.cps.size := hg
    have hno : ["enumerate", "zip", "dict_itemiterator", "dict_reverseitemiterator", "odict_iterator", "itertools.zip_longest", "itertools.pairwise"].contains ty = false := by
      rcases hty with rfl | rfl
      · decide
      · decide
    have fin : ∀ g, g.IsStrIter it ty x t (i + 1) → Heap.SameBut it s.heap g → (∃ u, some (Value.str ⟨#[x.cps[i]]⟩ s.toks) = some u ∧ wpAny (model X.prog X.w) X.A (letOwnedTupleGo tg (.ref it) u) (fun _ s2 => ∃ x' H', Inv X pins σ H' s2 ∧ RelV x' u ∧ (Its x).yld i H x' H' ∧ s2.heap.IsStrIter it ty x t (i + 1) ∧ ∀ b ∈ [it], H' b = none) E { s with heap := g, toks := s.toks + 1 }) := by
      intro g st2 sb
      have J : Inv X pins σ H { s with heap := g, toks := s.toks + 1 } := I.turned (fun b o hb e => (sb.2 b hb).trans e) f0 f1 f3 f4 f5
      obtain ⟨o, e, c, d⟩ := id st2
      exact ⟨_, rfl, go_of (s := { s with heap := g, toks := s.toks + 1 }) e c d hno ⟨.str ⟨#[x.cps[i]]⟩, H, J, ⟨_, rfl⟩, ⟨rfl, x.cps[i], by simp [lt], rfl⟩, st2, fun b hb => (hf b hb).1⟩⟩
    rcases hty with rfl | rfl
    · exact wpAny_pyNext_ascii_item st (c := x.cps[i]) (by simp [lt]) fun g a b => fin g a b
    · exact wpAny_pyNext_wide_item st (c := x.cps[i]) (by simp [lt]) fun g a b => fin g a b
  done := by
    rintro X rfl rfl rfl hc i pins s σ H E I hf st hg
    obtain ⟨x1, hot, off⟩ := hot_off hc I hf
    obtain ⟨f0, f1, f2, f3, f4, f5⟩ := hf it (by simp)
    have hx : x.cps[i]? = none := Array.getElem?_eq_none hg
    rcases hty with rfl | rfl
    · exact ascii_end hot (off it (by simp)) st hx fun g k => ⟨rfl, I.turned (t' := s.toks) (fun b o hb e => k b o hb e) f0 f1 f3 f4 f5⟩
    · exact wide_end hot (off it (by simp)) st hx fun g k => ⟨rfl, I.turned (t' := s.toks) (fun b o hb e => k b o hb e) f0 f1 f3 f4 f5⟩
  self := fun A i s Q E st h => by
    rcases hty with rfl | rfl
    · exact wpAny_pyIter_striter_ascii st h
    · exact wpAny_pyIter_striter_wide st h
theorem turn_enumH {elts : List Expr} {kk : Nat} {tpos : Pos} (a e it : Addr) : TurnH P w K (.Tuple elts kk tpos) (Ite K a) [e, it] e (fun i h => (∃ old, IsEnum h e it ((i : Nat) : Int) old) ∧ h.IsListIter it a i ∧ e ≠ it) where
  mem := by simp
  obj := fun i h st b hb => by
    obtain ⟨⟨old, he⟩, ⟨o, ho, hc, hd⟩, _⟩ := st
    have z : b = e ∨ b = it := by simpa using hb
    rcases z with rfl | rfl
    · exact ⟨_, he, fun v q => nomatch q⟩
    · exact ⟨o, ho, fun v q => by rw [hd] at q; cases q⟩
  keep := fun i h h' st k => let ⟨⟨old, he⟩, hi, hne⟩ := st; ⟨⟨old, k e (by simp) _ he⟩, hi.at fun o q => k it (by simp) o q, hne⟩
  item := by
    rintro X rfl rfl rfl hc i pins s σ H E I hf ⟨⟨old, he⟩, hit, hne⟩ ⟨xs, x, hq, hx⟩
    obtain ⟨its, rv, p, hz⟩ := I.list hq
    obtain ⟨u, hu, ru⟩ := rv.get hx
    have hel := Heap.lt_size he
    have hil : it < s.heap.objs.size := let ⟨_, q, _⟩ := hit; Heap.lt_size q
    refine wpAny_pyNext_enum_item he hit p.isList (x := u) (by simpa using hu) hne fun g ho hit' hT hsz hk => ?_
    refine ⟨_, rfl, wpAny_letOwnedTupleGo_enum (s := { s with heap := g, toks := s.toks + 1 }) ho fun g2 he' sb => ?_⟩
    have hT2 := (sb.2 _ (Nat.ne_of_gt hel)).trans hT
    have new : ObjOk X.prog X.w (upd H s.heap.objs.size (.tup [.int (i : Nat), x])) g2 s.heap.objs.size (.tup [.int (i : Nat), x]) := ⟨by show 2 ≤ sizeLine; decide, [.int i s.toks, u], .cons ⟨_, rfl⟩ (.cons ru .nil), ⟨_, hT2, rfl, _, rfl⟩⟩
    have J : Inv X pins σ (upd H s.heap.objs.size (.tup [.int (i : Nat), x])) { s with heap := g2, toks := s.toks + 1 } :=
      I.turnedNew (ch := [e, it]) (fun b ob hb q => (sb.2 b (fun z => hb (by simp [z]))).trans (hk b ob (fun z => hb (by simp [z])) (fun z => hb (by simp [z])) q)) hf (Nat.le_refl _) new
    refine ⟨.ref s.heap.objs.size, _, J, rfl, ⟨_, x, rfl, I.hok.fresh (Nat.le_refl _), rfl, fun ys hy => by rw [I.list_inj hy hq]; exact hx⟩, ⟨⟨u, by rw [show ((i + 1 : Nat) : Int) = (i : Int) + 1 by omega]; exact he'⟩, hit'.at fun o q => (sb.2 it (Ne.symm hne)).trans q, hne⟩, fun b hb => ?_⟩
    have hb' : b < s.heap.objs.size := by
      have z : b = e ∨ b = it := by simpa using hb
      rcases z with rfl | rfl
      · exact hel
      · exact hil
    rw [upd_ne (Nat.ne_of_lt hb')]
    exact (hf b hb).1
  done := by
    rintro X rfl rfl rfl hc i pins s σ H E I hf ⟨⟨old, he⟩, hit, hne⟩ ⟨xs, hq, hx⟩
    obtain ⟨its, rv, p, hz⟩ := I.list hq
    obtain ⟨x1, hot, off⟩ := hot_off hc I hf
    obtain ⟨f0, f1, f2, f3, f4, f5⟩ := hf it (by simp)
    have hl := rv.length
    exact enum_end hot (off it (by simp)) he hit p.isList (by simp; omega) fun g k => ⟨rfl, I.turned (t' := s.toks) (fun b o hb q => k b o hb q) f0 f1 f3 f4 f5⟩
  self := fun A i s Q E st h => let ⟨⟨_, he⟩, _⟩ := st; wpAny_pyIter_enum he h
end
section
variable {X : Cx} {tg : Expr}
theorem pi_oneH {pins : List (Addr × Obj)} {σ : L2.St} {H : Hp} {s : Shared} {R : It → Hp → Prop} {J : It} {tn : Nat → Heap → Prop} {tk : Nat} (I : Inv X pins σ H s) (o : Obj) (T : TurnH X.prog X.w X.K tg J [s.heap.objs.size] s.heap.objs.size tn) (st : tn 0 (s.heap.push o)) (q : R J H) :
    PIEH X pins σ tg R (.ref s.heap.objs.size) { s with heap := s.heap.push o, toks := tk } := by
  refine ⟨s.heap.objs.size, [s.heap.objs.size], tn, J, H, rfl, I.kept fun b u e => Heap.get?_push_of_some _ e, T, st, fun b hb => ?_, q⟩
  obtain rfl : b = s.heap.objs.size := by simpa using hb
  exact I.fpOk (Nat.le_refl _) (I.hok.fresh (Nat.le_refl _))
theorem pi_listH {l : Expr} {tl : TE} (hl : PE X l tl) : PIH X tg l (iList X.K tl) := by
  refine ⟨fun pins s σ H R I h => thn (hl.run pins s σ H _ I h) fun v s1 ⟨x, H1, I1, r1, a, e, ⟨xs, hq⟩, q⟩ => ?_⟩
  subst e
  cases r1
  obtain ⟨its, rv, p, hz⟩ := I1.list hq
  exact wpAny_pyIter_list p.isList (pi_oneH (tk := s1.toks) I1 _ (turn_listH a _) ⟨_, Heap.get?_push_size _ rfl, rfl, rfl⟩ q)
theorem pi_strH {e : Expr} {te : TE} (he : PE X e te) : PIH X tg e (iStr te) := by
  refine ⟨fun pins s σ H R I h => thn (he.run pins s σ H _ I h) fun v s1 ⟨y, H1, I1, r1, x, ex, q⟩ => ?_⟩
  subst ex
  obtain ⟨t, rfl⟩ := r1
  cases ha : x.cps.all (· < 128)
  · exact wpAny_pyIter_wide ha (pi_oneH (tk := s1.toks) I1 _ (turn_strH _ x t "str_iterator" (.inr rfl)) ⟨_, Heap.get?_push_size _ rfl, rfl, rfl⟩ q)
  · exact wpAny_pyIter_ascii ha (pi_oneH (tk := s1.toks) I1 _ (turn_strH _ x t "str_ascii_iterator" (.inl rfl)) ⟨_, Heap.get?_push_size _ rfl, rfl, rfl⟩ q)
theorem pi_enumH {e : Expr} {ta : TA} {p pos tpos : Pos} {elts : List Expr} {kk : Nat} (hg : Gl X "enumerate") (hm : X.mg "enumerate" = none) (ha : PA X [e] ta) (hs : starEach [e] X.env = [(false, eval e X.env)] := by rfl) :
    PIH X (.Tuple elts kk tpos) (.Call (.Name "enumerate" p) [e] [] pos) (iEnum X.K ta) := by
  refine ⟨fun pins s σ H R I h => Call_ (ld_blt I hg hm boot_enumerate (PyProof.Rows.callWith_type1 (thn (ha.run pos pins s σ H _ I h) fun us s1 ⟨vs, H1, I1, r1, a, xs, ex, hq, q⟩ => ?_) hs rfl))⟩
  subst ex
  cases r1 with
  | cons r rr =>
    cases rr
    cases r
    obtain ⟨its, rv, p', hz⟩ := I1.list hq
    refine call_enumerate_list p'.isList fun g he hit hsz hk => wpAny_pyIter_enum he ?_
    have I2 : Inv X pins σ H1 { s1 with heap := g } := I1.kept (t' := s1.toks) hk
    refine ⟨s1.heap.objs.size + 1, [s1.heap.objs.size + 1, s1.heap.objs.size], _, _, H1, rfl, I2, turn_enumH a (s1.heap.objs.size + 1) s1.heap.objs.size, ⟨⟨.none, he⟩, hit, Nat.succ_ne_self _⟩, fun b hb => ?_, q⟩
    have hle : s1.heap.objs.size ≤ b := by
      have z : b = s1.heap.objs.size + 1 ∨ b = s1.heap.objs.size := by simpa using hb
      rcases z with rfl | rfl <;> omega
    exact I1.fpOk hle (I1.hok.fresh hle)
/-- all(xs), any(xs), sum(xs) of a list there -/
theorem hot_new {pins : List (Addr × Obj)} {σ : L2.St} {H : Hp} {s : Shared} (c : HotC X) (I : Inv X pins σ H s) : ∃ x1 o1 vs1, X.A.handled = some (.ref x1) ∧ o1.data = .fields vs1 ∧ vs1[2]? = some .none ∧ s.heap.get? x1 = some o1 ∧ x1 < s.heap.objs.size := by
  obtain ⟨p, ⟨hh, v1, e1, c1⟩, hp⟩ := c
  have g := (I.pin p (List.mem_append_left _ hp)).1
  exact ⟨p.1, p.2, v1, hh, e1, c1, g, Heap.lt_size g⟩
theorem cr_allH (hc : HotC X) : CallR X (.builtin "all") (rAll X.K) := by
  intro pins s σ H vs us Q I r h
  obtain ⟨a, bs, rfl, hs, q⟩ := h
  obtain ⟨its, rv, hl, _⟩ := I.list hs
  obtain ⟨x1, o1, vs1, hh, d1, c1, g1, lt⟩ := hot_new hc I
  rw [Vals.ref1 r]
  have hb := rv.bls
  refine call_all_walk (wpAny_pyIter_list hl.isList ?_)
  have la : a < s.heap.objs.size := let ⟨_, e, _⟩ := hl.isList; Heap.lt_size e
  refine ⟨_, _, _, _, _, _, _, rfl, walks (A := X.A.in1) hh d1 c1 _ a (Nat.ne_of_lt la) (Nat.ne_of_lt lt) its.toArray, ⟨⟨⟨_, Heap.get?_push_size _ rfl, rfl, rfl⟩, hl.isList.push _⟩, Heap.get?_push_of_some _ g1⟩, truth_bools hb, fun g tk k => ?_⟩
  refine ⟨.bl _, H, I.kept fun b o eo => k b o (fun m => ?_) (Heap.get?_push_of_some _ eo), ?_, q⟩
  · obtain rfl : b = s.heap.objs.size := by simpa using m
    exact absurd (Heap.lt_size eo) (Nat.lt_irrefl _)
  · show Value.bool _ = Value.bool _
    rw [← L2.all_range, hb, List.size_toArray, List.length_map]
theorem cr_sumH (hc : HotC X) : CallR X (.builtin "sum") (rSum X.K) := by
  intro pins s σ H vs us Q I r h
  obtain ⟨a, ns, rfl, hs, q⟩ := h
  obtain ⟨its, rv, hl, _⟩ := I.list hs
  obtain ⟨x1, o1, vs1, hh, d1, c1, g1, lt⟩ := hot_new hc I
  rw [Vals.ref1 r]
  obtain ⟨xs, e⟩ := rv.ints.allInts.items
  have hn : numsOf (intItems xs).toList = ns := by rw [← e]; exact rv.ints.numsOf
  rw [nums_intItems] at hn
  have hl2 := hl.isList
  rw [e] at hl2
  have la : a < s.heap.objs.size := let ⟨_, e, _⟩ := hl.isList; Heap.lt_size e
  refine call_sum_walkG (wpAny_pyIter_list hl2 ?_)
  refine ⟨_, _, _, _, _, _, numAt xs, rfl, walks (A := X.A.in1) hh d1 c1 _ a (Nat.ne_of_lt la) (Nat.ne_of_lt lt) (intItems xs), ⟨⟨⟨_, Heap.get?_push_size _ rfl, rfl, rfl⟩, hl2.push _⟩, Heap.get?_push_of_some _ g1⟩, fun b hb => ?_, (fun _ _ => intItems_at), fun g tk t' k => ?_⟩
  · show b < (s.heap.push _).objs.size
    rw [Heap.size_push]
    rcases List.mem_cons.mp hb with rfl | hb
    · exact Nat.lt_succ_self _
    · rcases List.mem_cons.mp hb with rfl | hb
      · exact Nat.lt_succ_of_lt la
      · obtain rfl : b = x1 := by simpa using hb
        exact Nat.lt_succ_of_lt lt
  · refine ⟨.int _, H, I.kept fun b o eo => k b o (fun m => ?_) (Heap.get?_push_of_some _ eo), ?_, q⟩
    · obtain rfl : b = s.heap.objs.size := by simpa using m
      exact absurd (Heap.lt_size eo) (Nat.lt_irrefl _)
    · refine ⟨t', ?_⟩
      rw [preSum_eq, ← hn, List.take_of_length_le (by simp [intItems])]
end
end Hw

/-! List comprehensions of one clause and of two, where an exception is handled. -/
namespace Hw
open PySem PySem.Spec PyProof.Rows L2 L2H HotX
/-- the block's context: the handled exception stands in it too -/
abbrev blkH (X : Cx) (s : Shared) (H : Hp) (sc : Scope) (ce : Env) (fp : List Addr) : Cx := { X.blk s H sc ce fp with pn := X.pn }
abbrev Allc (X : Cx) (sc : Scope) (Z : Cx → Prop) : Prop := ∀ (s : Shared) (H : Hp) (C : Addr) (cl : List (Str × Addr)) (fp : List Addr), Z (blkH X s H sc (compEnvC sc cl C X.env) fp)
section
variable {X : Cx}
theorem up {s : Shared} {H : Hp} {sc : Scope} {ce : Env} {fp : List Addr} (hc : HotC X) : HotC (blkH X s H sc ce fp) := hc
theorem to_blkH {pins : List (Addr × Obj)} {σ : L2.St} {s0 s : Shared} {H0 H : Hp} {sc : Scope} {ce : Env} {fp : List Addr} (J : Inv (X.blk s0 H0 sc ce fp) pins σ H s)
    (hp : ∀ p ∈ X.pn, s.heap.get? p.1 = some p.2 ∧ H p.1 = none ∧ p.1 ≠ ce.locals ∧ p.1 ∉ frs X.stack ∧ ∀ v, p.2.data ≠ .cell v) : Inv (blkH X s0 H0 sc ce fp) pins σ H s := by
  have k := J.ok
  refine ⟨⟨k.mod, k.kind, k.glob, k.blt, k.above, k.inj, k.has, k.cab, k.hd, k.frames, k.stk, k.exf, k.bs, k.bsz, k.noex, k.exfs, k.funs, k.frf⟩, J.os, J.bare, J.base, J.loc, J.cell, J.free, J.freeC, fun p m => ?_, J.hok, J.len⟩
  rcases List.mem_append.mp m with m | m
  · exact hp p m
  · exact J.pin p (List.mem_append_right _ m)
variable {pins : List (Addr × Obj)} {s : Shared} {σ : L2.St} {H : Hp} {Q : VK} {elt tg iter : Expr} {ifs : List Expr} {scope : Scope} {own : List (Str × Nat)} {pos pos' : Pos} {wi : TI} {g : TG} {tt : TT} {te : TE} {use : Option (Value → Sem Unit)} {Qf : Value → Shared → Prop}
/-- what the block begins with: the new list at D, its own environment -/
theorem begin_H {D : Addr} {fp : List Addr} {s2 s3 : Shared} {H2 : Hp} {tn : Nat → Heap → Prop} (nd : X.N.Nodup) (I2 : Inv X pins σ H2 s2) (ok : BlkOk X.N X.env.scope scope own) (eD : s2.heap.objs.size = D)
    (e3 : s3 = { s2 with heap := s2.heap.push { cls := .type "list", data := .seq ([] : List Value).toArray } }) (ob : ∀ b ∈ fp, ∃ o, s2.heap.get? b = some o ∧ ∀ v, o.data ≠ .cell v) (f2 : ∀ b ∈ fp, FpOk X pins H2 b) :
    Inv X pins σ (upd H2 D (.lst [])) s3 ∧ (∀ b ∈ fp, FpOk X pins (upd H2 D (.lst [])) b ∧ b < s3.heap.objs.size) ∧ (∀ b o, s2.heap.get? b = some o → s3.heap.get? b = some o) ∧
      Inv (blkH X s3 (upd H2 D (.lst [])) scope (compEnvC scope (cellsFrom (s3.heap.objs.size + 1) scope.names (cloFrom X.env.cells scope.names [])) s3.heap.objs.size X.env) fp) [] (wipe σ (own.map (·.2))) (upd H2 D (.lst []))
        { s3 with heap := pushCells (s3.heap.push { cls := .type "dict", data := .dict #[] }) scope.names } := by
  have h3 : s3.heap = s2.heap.push { cls := .type "list", data := .seq ([] : List Value).toArray } := by rw [e3]
  have kp : ∀ b o, s2.heap.get? b = some o → s3.heap.get? b = some o := fun b o e => by rw [h3]; exact Heap.get?_push_of_some _ e
  have I3 : Inv X pins σ (upd H2 D (.lst [])) s3 := by
    rw [e3]
    refine I2.laid (t' := s2.toks) (fun b o e => Heap.get?_push_of_some _ e) (Nat.le_of_eq eD) ⟨Nat.zero_le _, [], 0, .nil, ?_⟩
    rw [← eD]
    exact Heap.get?_push_size _ rfl
  have f3 : ∀ b ∈ fp, FpOk X pins (upd H2 D (.lst [])) b ∧ b < s3.heap.objs.size := by
    intro b m
    obtain ⟨o, e, _⟩ := ob b m
    have lt := Heap.lt_size e
    refine ⟨⟨?_, (f2 b m).2⟩, Heap.lt_size (kp b o e)⟩
    rw [upd_ne (by rw [← eD]; exact Nat.ne_of_lt lt)]
    exact (f2 b m).1
  refine ⟨I3, f3, kp, to_blkH (block_start I3 ok nd f3) fun p m => ?_⟩
  obtain ⟨q1, q2, q3, q4, q5⟩ := I3.pin p (List.mem_append_left _ m)
  refine ⟨pushCells_keeps _ _ _ _ (Heap.get?_push_of_some _ q1), q2, Nat.ne_of_lt (Heap.lt_size q1), fun z => ?_, q5⟩
  exact (List.mem_cons.mp (I3.stkSub p.1 z)).elim q3 q4
/-- the way back into the def -/
theorem back_H {D : Addr} {fp : List Addr} {s3 s6 : Shared} {H3 H5 : Hp} {τ τ' : L2.St} {sc : Scope} {ce : Env} {pn' : List (Addr × Obj)} (cL : ce.locals = s3.heap.objs.size) (I3 : Inv X pins σ H3 s3) (f3 : ∀ b ∈ fp, FpOk X pins H3 b ∧ b < s3.heap.objs.size)
    (I6 : Inv (blkH X s3 H3 sc ce fp) pn' τ H5 s6) : Inv X pins σ H5 s6 ∧ (∃ m, s6.heap.Ns s3.heap.objs.size m) ∧ FpOk X pins H5 s3.heap.objs.size := by
  have z : H5 ce.locals = none := I6.free
  obtain ⟨m, n, _⟩ := I6.loc
  have n : s6.heap.Ns ce.locals m := n
  rw [cL] at z n
  exact ⟨I3.call' (ch := fp) I6.os I6.base I6.hok I6.bare fun b m => ⟨(f3 b m).1.2.2.2.1, (f3 b m).1.2.1, (f3 b m).1.2.2.2.2.1, (f3 b m).1.2.2.2.2.2⟩, ⟨m, n⟩, I3.fpOk (Nat.le_refl _) z⟩
theorem stat_H {fp : List Addr} {s3 s' : Shared} {H3 H' : Hp} {τ : L2.St} {sc : Scope} {ce : Env} (f3 : ∀ b ∈ fp, FpOk X pins H3 b ∧ b < s3.heap.objs.size) (J : Inv (blkH X s3 H3 sc ce fp) [] τ H' s') (no : ∀ b ∈ fp, H' b = none) : ∀ b ∈ fp, FpOk (blkH X s3 H3 sc ce fp) [] H' b := by
  intro b m
  refine ⟨no b m, (J.ok.exf b m).1, J.ok.exfs b m, .inl m, fun x c e => (J.ok.exf b m).2 x c e, fun p hp => ?_⟩
  have hp : p ∈ X.pn := by simpa using hp
  exact (f3 b m).1.2.2.2.2.2 p (List.mem_append_left _ hp)
theorem core_H (hc : HotC X) (nd : X.N.Nodup) (I : Inv X pins σ H s) (hi : PIH X tg iter wi) (ok : BlkOk X.N X.env.scope scope own) (hg : Allc X scope fun Y => PG Y tg g) (ht : Allc X scope fun Y => PTs Y ifs tt) (he : Allc X scope fun Y => PE Y elt te)
    (hs : ∀ x, foldedSetIterable iter X.env x = pure x) (h : tLc wi g tt te (own.map (·.2)) σ H Q)
    (fin : ∀ D C s' m H', Inv X pins σ H' s' → Q (.ref D) H' → s'.heap.Ns C m → FpOk X pins H' C → compPost (model X.prog X.w) X.A X.xe use Qf (.ref D) C (.ok .next) s') :
    wpAny (model X.prog X.w) X.A (comprehension (.ListComp elt [⟨tg, iter, ifs, 0⟩] scope pos) scope X.env pos' (newList []) false (eval iter X.env) use) Qf X.xe s := by
  have free : ∀ y ∈ scope.names, y.2 = .free → ∃ c, X.env.cells.lookup y.1 = some c := fun y m e => I.ok.has _ (ok.free y m e)
  refine wpAny_comprehension_free (use := use) rfl hs (closure_ok free) ok.kind (fun y m e => by rw [ok.uniq y m, e]) (thn (hi.run pins s σ H _ I h) fun xv s1 hx => thn hx fun itv s2 r2 => ?_)
  obtain ⟨it, fp, tn, J, H2, rfl, I2, T, st2, f2, q⟩ := r2
  refine wpAny_newObj_type (newEnv_comp ?_) (by show 0 ≤ sizeLine; decide)
  generalize eD : s2.heap.objs.size = D
  obtain ⟨W, ⟨m0, w0⟩, turn⟩ := q D (I2.hok.fresh (Nat.le_of_eq eD))
  generalize e3 : ({ s2 with heap := s2.heap.push { cls := .type "list", data := .seq ([] : List Value).toArray } } : Shared) = s3
  obtain ⟨I3, f3, kp, I4⟩ := begin_H (tn := tn) nd I2 ok eD e3.symm (T.obj _ _ st2) f2
  have h3 : s3.heap = s2.heap.push { cls := .type "list", data := .seq ([] : List Value).toArray } := by rw [← e3]
  have pg := hg s3 (upd H2 D (.lst [])) s3.heap.objs.size (cellsFrom (s3.heap.objs.size + 1) scope.names (cloFrom X.env.cells scope.names [])) fp
  have pt := ht s3 (upd H2 D (.lst [])) s3.heap.objs.size (cellsFrom (s3.heap.objs.size + 1) scope.names (cloFrom X.env.cells scope.names [])) fp
  have pe := he s3 (upd H2 D (.lst [])) s3.heap.objs.size (cellsFrom (s3.heap.objs.size + 1) scope.names (cloFrom X.env.cells scope.names [])) fp
  show codeAny _ _ (.compStart (.ListComp elt [⟨tg, iter, ifs, 0⟩] scope pos) 0 (.ref it) (.ref D) (compEnvC scope (cellsFrom (s3.heap.objs.size + 1) scope.names (cloFrom X.env.cells scope.names [])) s3.heap.objs.size X.env))
    (compPost (model X.prog X.w) X.A X.xe use Qf (.ref D) s3.heap.objs.size) { s3 with heap := pushCells (s3.heap.push { cls := .type "dict", data := .dict #[] }) scope.names }
  have nfp : ∀ b ∈ fp, (upd H2 D (.lst [])) b = none := fun b m => (f3 b m).1.1
  generalize ec : compEnvC scope (cellsFrom (s3.heap.objs.size + 1) scope.names (cloFrom X.env.cells scope.names [])) s3.heap.objs.size X.env = ce at I4 pg pt pe ⊢
  have cL : ce.locals = s3.heap.objs.size := by subst ec; rfl
  generalize upd H2 D (.lst []) = H3 at I3 I4 pg pt pe w0 nfp f3
  have st4 : tn 0 (pushCells (s3.heap.push { cls := .type "dict", data := .dict #[] }) scope.names) := T.keep _ _ _ st2 fun b _ o e => pushCells_keeps _ _ _ _ (Heap.get?_push_of_some _ (kp b o e))
  generalize e4 : ({ s3 with heap := pushCells (s3.heap.push { cls := .type "dict", data := .dict #[] }) scope.names } : Shared) = s4 at I4 ⊢
  have st4 : tn 0 s4.heap := by rw [← e4]; exact st4
  have loop : codeAny (model X.prog X.w) X.A (.compLoop (.ListComp elt [⟨tg, iter, ifs, 0⟩] scope pos) 0 (.ref it) (.ref D) ce) (compPost (model X.prog X.w) X.A X.xe use Qf (.ref D) s3.heap.objs.size) s4 := by
    refine compLoop_any (fun n s' => ∃ i H', Inv (blkH X s3 H3 scope ce fp) [] (wipe σ (own.map (·.2))) H' s' ∧ tn i s'.heap ∧ (∀ b ∈ fp, H' b = none) ∧ W i n H') ?_ m0 ⟨0, H3, I4, st4, nfp, w0⟩
    rintro n s5 ⟨i, H5, I5, st5, n5, w5⟩
    rcases turn i n H5 w5 with ⟨stop, qq⟩ | ⟨go, Nx, hNx, step⟩
    · refine thnF (T.done (blkH X s3 H3 scope ce fp) rfl rfl rfl hc i [] s5 _ H5 (fun _ _ => False) I5 (stat_H f3 I5 n5) st5 stop) fun r s6 ⟨er, I6⟩ => ?_
      subst er
      obtain ⟨I7, ⟨m, n7⟩, f7⟩ := back_H (τ' := σ) (D := D) cL I3 f3 I6
      exact fin D s3.heap.objs.size s6 m H5 I7 qq n7 f7
    · refine thnF (T.item (blkH X s3 H3 scope ce fp) rfl rfl rfl hc i [] s5 _ H5 (fun _ _ => False) I5 (stat_H f3 I5 n5) st5 go) fun r s6 ⟨u, er, h6⟩ => ?_
      subst er
      refine thnF h6 fun _ s7 ⟨x, H7, I7, r7, y7, st7, n7⟩ => ?_
      have I7' := I7.pinned (stat_H f3 I7 n7) (T.obj _ _ st7)
      refine thnF (pg.run _ s7 _ H7 x u _ I7' r7 (step x H7 y7)) fun _ s8 ⟨σ8, H8, I8, hw8, q8⟩ => thnF (pt.run _ s8 σ8 H8 _ I8 q8) fun b s9 ⟨H9, I9, q9⟩ => ?_
      have endT : ∀ {s' : Shared} {H' : Hp}, Inv (blkH X s3 H3 scope ce fp) ([] ++ pinsAt fp s7.heap) σ8 H' s' → Nx H' → ∃ m, m < n ∧ ∃ i H', Inv (blkH X s3 H3 scope ce fp) [] (wipe σ (own.map (·.2))) H' s' ∧ tn i s'.heap ∧ (∀ b ∈ fp, H' b = none) ∧ W i m H' := by
        intro s' H' I' nx
        obtain ⟨m', lt, w'⟩ := hNx H' nx
        have stay : ∀ b ∈ fp, ∀ o, s7.heap.get? b = some o → s'.heap.get? b = some o ∧ H' b = none := fun b hb o e =>
          let z := I'.pin (b, o) (List.mem_append_right _ (List.mem_append_right _ (mem_pinsAt hb e)))
          ⟨z.1, z.2.1⟩
        refine ⟨m', lt, i + 1, H', (I'.unpinned (pins := [])).weak (by rw [← hw8, wipe_length]) (fun j v e => ?_), T.keep _ _ _ st7 fun b hb o e => (stay b hb o e).1, fun b hb => ?_, w'⟩
        · rw [← hw8] at e
          exact (wipe_some e).1
        · obtain ⟨o, e, _⟩ := T.obj _ _ st7 b hb
          exact (stay b hb o e).2
      cases b with
      | false =>
        simp only [Bool.false_eq_true, if_false] at q9 ⊢
        exact endT I9 q9
      | true =>
        simp only [if_true] at q9 ⊢
        refine thnF (pe.run _ s9 σ8 H9 _ I9 q9) fun z s10 ⟨yv, H10, I10, r10, acc, hD10, hz10, nx⟩ => ?_
        exact app_ok (X := blkH X s3 H3 scope ce fp) I10 hD10 hz10 r10 fun s11 I11 => endT I11 nx
  exact codeAny_compStart_list loop (T.self X.A 0 _ _ _ st4 loop)
/-- as a value -/
theorem pe_lcH (hc : HotC X) (nd : X.N.Nodup) (hi : PIH X tg iter wi) (ok : BlkOk X.N X.env.scope scope own) (hg : Allc X scope fun Y => PG Y tg g) (ht : Allc X scope fun Y => PTs Y ifs tt) (he : Allc X scope fun Y => PE Y elt te)
    (hs : ∀ x, foldedSetIterable iter X.env x = pure x := by intro _; rfl) : PE X (.ListComp elt [⟨tg, iter, ifs, 0⟩] scope pos) (tLc wi g tt te (own.map (·.2))) := by
  refine ⟨fun pins s σ H Q I h => ?_⟩
  rw [eval_ListComp]
  refine core_H hc nd I hi ok hg ht he hs h fun D C s' m H' I' q n f => ⟨m, n, fun g sb => ?_⟩
  obtain ⟨f0, f1, f2, f3, f4, f5⟩ := f
  exact ⟨.ref D, H', I'.turned (t' := s'.toks) (fun b o ne e => (sb.2 b ne).trans e) f0 f1 f3 f4 f5, rfl, q⟩
end
end Hw

/-! List comprehensions of two clauses, where an exception is handled. -/
namespace Hw
open PySem PySem.Spec PyProof.Rows L2 L2H HotX
section
variable {X : Cx}
variable {pins : List (Addr × Obj)} {s : Shared} {σ : L2.St} {H : Hp} {Q : VK} {elt tg iter : Expr} {ifs : List Expr} {scope : Scope} {own : List (Str × Nat)} {pos pos' : Pos} {wi : TI} {g : TG} {tt : TT} {te : TE} {use : Option (Value → Sem Unit)} {Qf : Value → Shared → Prop}
variable {tg1 iter1 : Expr} {ifs1 : List Expr} {vs1 : List Nat} {wi1 : TI} {g1 : TG} {tt1 : TT}
theorem core2_H (hc : HotC X) (nd : X.N.Nodup) (I : Inv X pins σ H s) (hi : PIH X tg iter wi) (ok : BlkOk X.N X.env.scope scope own) (hg : Allc X scope fun Y => PG Y tg g) (ht : Allc X scope fun Y => PTs Y ifs tt) (he : Allc X scope fun Y => PE Y elt te)
    (hs : ∀ x, foldedSetIterable iter X.env x = pure x) (hv : ∀ i ∈ vs1, i ∈ own.map (·.2)) (hi1 : Allc X scope fun Y => PIH Y tg1 iter1 wi1) (hg1 : Allc X scope fun Y => PG Y tg1 g1) (ht1 : Allc X scope fun Y => PTs Y ifs1 tt1)
    (hs1 : ∀ env x, foldedSetIterable iter1 env x = pure x) (h : tLc2 wi g tt wi1 g1 tt1 te (own.map (·.2)) vs1 σ H Q)
    (fin : ∀ D C s' m H', Inv X pins σ H' s' → Q (.ref D) H' → s'.heap.Ns C m → FpOk X pins H' C → compPost (model X.prog X.w) X.A X.xe use Qf (.ref D) C (.ok .next) s') :
    wpAny (model X.prog X.w) X.A (comprehension (.ListComp elt [⟨tg, iter, ifs, 0⟩, ⟨tg1, iter1, ifs1, 0⟩] scope pos) scope X.env pos' (newList []) false (eval iter X.env) use) Qf X.xe s := by
  have free : ∀ y ∈ scope.names, y.2 = .free → ∃ c, X.env.cells.lookup y.1 = some c := fun y m e => I.ok.has _ (ok.free y m e)
  refine wpAny_comprehension_free (use := use) rfl hs (closure_ok free) ok.kind (fun y m e => by rw [ok.uniq y m, e]) (thn (hi.run pins s σ H _ I h) fun xv s1 hx => thn hx fun itv s2 r2 => ?_)
  obtain ⟨it, fp, tn, J, H2, rfl, I2, T, st2, f2, q⟩ := r2
  refine wpAny_newObj_type (newEnv_comp ?_) (by show 0 ≤ sizeLine; decide)
  generalize eD : s2.heap.objs.size = D
  obtain ⟨W, ⟨m0, w0⟩, turn⟩ := q D (I2.hok.fresh (Nat.le_of_eq eD))
  generalize e3 : ({ s2 with heap := s2.heap.push { cls := .type "list", data := .seq ([] : List Value).toArray } } : Shared) = s3
  obtain ⟨I3, f3, kp, I4⟩ := begin_H (tn := tn) nd I2 ok eD e3.symm (T.obj _ _ st2) f2
  have h3 : s3.heap = s2.heap.push { cls := .type "list", data := .seq ([] : List Value).toArray } := by rw [← e3]
  have pg := hg s3 (upd H2 D (.lst [])) s3.heap.objs.size (cellsFrom (s3.heap.objs.size + 1) scope.names (cloFrom X.env.cells scope.names [])) fp
  have pt := ht s3 (upd H2 D (.lst [])) s3.heap.objs.size (cellsFrom (s3.heap.objs.size + 1) scope.names (cloFrom X.env.cells scope.names [])) fp
  have pe := he s3 (upd H2 D (.lst [])) s3.heap.objs.size (cellsFrom (s3.heap.objs.size + 1) scope.names (cloFrom X.env.cells scope.names [])) fp
  have qi := hi1 s3 (upd H2 D (.lst [])) s3.heap.objs.size (cellsFrom (s3.heap.objs.size + 1) scope.names (cloFrom X.env.cells scope.names [])) fp
  have qg := hg1 s3 (upd H2 D (.lst [])) s3.heap.objs.size (cellsFrom (s3.heap.objs.size + 1) scope.names (cloFrom X.env.cells scope.names [])) fp
  have qt := ht1 s3 (upd H2 D (.lst [])) s3.heap.objs.size (cellsFrom (s3.heap.objs.size + 1) scope.names (cloFrom X.env.cells scope.names [])) fp
  show codeAny _ _ (.compStart (.ListComp elt [⟨tg, iter, ifs, 0⟩, ⟨tg1, iter1, ifs1, 0⟩] scope pos) 0 (.ref it) (.ref D) (compEnvC scope (cellsFrom (s3.heap.objs.size + 1) scope.names (cloFrom X.env.cells scope.names [])) s3.heap.objs.size X.env))
    (compPost (model X.prog X.w) X.A X.xe use Qf (.ref D) s3.heap.objs.size) { s3 with heap := pushCells (s3.heap.push { cls := .type "dict", data := .dict #[] }) scope.names }
  have nfp : ∀ b ∈ fp, (upd H2 D (.lst [])) b = none := fun b m => (f3 b m).1.1
  generalize ec : compEnvC scope (cellsFrom (s3.heap.objs.size + 1) scope.names (cloFrom X.env.cells scope.names [])) s3.heap.objs.size X.env = ce at I4 pg pt pe qi qg qt ⊢
  have cL : ce.locals = s3.heap.objs.size := by subst ec; rfl
  generalize upd H2 D (.lst []) = H3 at I3 I4 pg pt pe qi qg qt w0 nfp f3
  have st4 : tn 0 (pushCells (s3.heap.push { cls := .type "dict", data := .dict #[] }) scope.names) := T.keep _ _ _ st2 fun b _ o e => pushCells_keeps _ _ _ _ (Heap.get?_push_of_some _ (kp b o e))
  generalize e4 : ({ s3 with heap := pushCells (s3.heap.push { cls := .type "dict", data := .dict #[] }) scope.names } : Shared) = s4 at I4 ⊢
  have st4 : tn 0 s4.heap := by rw [← e4]; exact st4
  have loop : codeAny (model X.prog X.w) X.A (.compLoop (.ListComp elt [⟨tg, iter, ifs, 0⟩, ⟨tg1, iter1, ifs1, 0⟩] scope pos) 0 (.ref it) (.ref D) ce) (compPost (model X.prog X.w) X.A X.xe use Qf (.ref D) s3.heap.objs.size) s4 := by
    refine compLoop2_out (hs1 ce) (fun n s' => ∃ i H', Inv (blkH X s3 H3 scope ce fp) [] (wipe σ (own.map (·.2))) H' s' ∧ tn i s'.heap ∧ (∀ b ∈ fp, H' b = none) ∧ W i n H') ?_ m0 ⟨0, H3, I4, st4, nfp, w0⟩
    rintro n s5 ⟨i, H5, I5, st5, n5, w5⟩
    rcases turn i n H5 w5 with ⟨stop, qq⟩ | ⟨go, Nx, hNx, step⟩
    · refine thnF (T.done (blkH X s3 H3 scope ce fp) rfl rfl rfl hc i [] s5 _ H5 (fun _ _ => False) I5 (stat_H f3 I5 n5) st5 stop) fun r s6 ⟨er, I6⟩ => ?_
      subst er
      obtain ⟨I7, ⟨m, n7⟩, f7⟩ := back_H (τ' := σ) (D := D) cL I3 f3 I6
      exact fin D s3.heap.objs.size s6 m H5 I7 qq n7 f7
    · refine thnF (T.item (blkH X s3 H3 scope ce fp) rfl rfl rfl hc i [] s5 _ H5 (fun _ _ => False) I5 (stat_H f3 I5 n5) st5 go) fun r s6 ⟨u, er, h6⟩ => ?_
      subst er
      refine thnF h6 fun _ s7 ⟨x, H7, I7, r7, y7, st7, n7⟩ => ?_
      have I7' := I7.pinned (stat_H f3 I7 n7) (T.obj _ _ st7)
      refine thnF (pg.run _ s7 _ H7 x u _ I7' r7 (step x H7 y7)) fun _ s8 ⟨σ8, H8, I8, hw8, q8⟩ => thnF (pt.run _ s8 σ8 H8 _ I8 q8) fun b s9 ⟨H9, I9, q9⟩ => ?_
      have endT : ∀ {τ : L2.St} {s' : Shared} {H' : Hp}, Inv (blkH X s3 H3 scope ce fp) ([] ++ pinsAt fp s7.heap) τ H' s' → τ.length = σ8.length → (∀ (j : Nat) v, (wipe σ (own.map (·.2)))[j]? = some (some v) → τ[j]? = some (some v)) → Nx H' →
          ∃ m, m < n ∧ ∃ i H', Inv (blkH X s3 H3 scope ce fp) [] (wipe σ (own.map (·.2))) H' s' ∧ tn i s'.heap ∧ (∀ b ∈ fp, H' b = none) ∧ W i m H' := by
        intro τ s' H' I' hl hk nx
        obtain ⟨m', lt, w'⟩ := hNx H' nx
        have stay : ∀ b ∈ fp, ∀ o, s7.heap.get? b = some o → s'.heap.get? b = some o ∧ H' b = none := fun b hb o e =>
          let z := I'.pin (b, o) (List.mem_append_right _ (List.mem_append_right _ (mem_pinsAt hb e)))
          ⟨z.1, z.2.1⟩
        refine ⟨m', lt, i + 1, H', (I'.unpinned (pins := [])).weak (by rw [hl, ← hw8, wipe_length]) hk, T.keep _ _ _ st7 fun b hb o e => (stay b hb o e).1, fun b hb => ?_, w'⟩
        obtain ⟨o, e, _⟩ := T.obj _ _ st7 b hb
        exact (stay b hb o e).2
      have k8 : ∀ (j : Nat) v, (wipe σ (own.map (·.2)))[j]? = some (some v) → σ8[j]? = some (some v) ∧ (wipe σ8 vs1)[j]? = some (some v) := by
        intro j v e
        rw [← hw8] at e
        obtain ⟨e1, e2⟩ := wipe_some e
        exact ⟨e1, by rw [wipe_out fun z => e2 (hv j z)]; exact e1⟩
      cases b with
      | false =>
        simp only [Bool.false_eq_true, if_false] at q9 ⊢
        exact endT I9 rfl (fun j v e => (k8 j v e).1) q9
      | true =>
        simp only [if_true] at q9 ⊢
        refine thnF (qi.run _ s9 σ8 H9 _ I9 q9) fun xv s10 hx => thnF hx fun itv s11 ⟨it1, fp1, tn1, J1, H11, e1, I11, T1, st11, f11, W1, ⟨m1, w1⟩, turn1⟩ => ?_
        subst e1
        have stat1 : ∀ {H' : Hp}, (∀ b ∈ fp1, H' b = none) → ∀ b ∈ fp1, FpOk (blkH X s3 H3 scope ce fp) ([] ++ pinsAt fp s7.heap) H' b := fun no b hb => ⟨no b hb, (f11 b hb).2⟩
        have inner : codeAny (model X.prog X.w) X.A (.compLoop (.ListComp elt [⟨tg, iter, ifs, 0⟩, ⟨tg1, iter1, ifs1, 0⟩] scope pos) 1 (.ref it1) (.ref D) ce)
            (fun r s' => match r with
              | .ok _ => ∃ m, m < n ∧ ∃ i H', Inv (blkH X s3 H3 scope ce fp) [] (wipe σ (own.map (·.2))) H' s' ∧ tn i s'.heap ∧ (∀ b ∈ fp, H' b = none) ∧ W i m H'
              | .error _ => False) s11 := by
          refine compLoop2_in (fun k s' => ∃ j H', Inv (blkH X s3 H3 scope ce fp) ([] ++ pinsAt fp s7.heap) (wipe σ8 vs1) H' s' ∧ tn1 j s'.heap ∧ (∀ b ∈ fp1, H' b = none) ∧ W1 j k H') ?_ m1 ⟨0, H11, I11.weak (wipe_length _ _) (fun j v e => (wipe_some e).1), st11, fun b hb => (f11 b hb).1, w1⟩
          rintro k sA ⟨j, HA, IA, stA, nA, wA⟩
          rcases turn1 j k HA wA with ⟨stop1, nx1⟩ | ⟨go1, Nx1, hNx1, step1⟩
          · refine thnF (T1.done (blkH X s3 H3 scope ce fp) rfl rfl rfl hc j _ sA (wipe σ8 vs1) HA (fun _ _ => False) IA (stat1 nA) stA stop1) fun r sB ⟨er, IB⟩ => ?_
            subst er
            exact endT IB (wipe_length σ8 vs1) (fun j v e => (k8 j v e).2) nx1
          · refine thnF (T1.item (blkH X s3 H3 scope ce fp) rfl rfl rfl hc j _ sA (wipe σ8 vs1) HA (fun _ _ => False) IA (stat1 nA) stA go1) fun r sB ⟨u1, er, hB⟩ => ?_
            subst er
            refine thnF hB fun _ sC ⟨x1, HC, IC, rC, yC, stC, nC⟩ => ?_
            have IC' := IC.pinned (stat1 nC) (T1.obj _ _ stC)
            refine thnF (qg.run _ sC (wipe σ8 vs1) HC x1 u1 _ IC' rC (step1 x1 HC yC)) fun _ sD ⟨σD, HD, ID, hwD, qD⟩ => thnF (qt.run _ sD σD HD _ ID qD) fun b1 sE ⟨HE, IE, qE⟩ => ?_
            have end1 : ∀ {s' : Shared} {H' : Hp}, Inv (blkH X s3 H3 scope ce fp) (([] ++ pinsAt fp s7.heap) ++ pinsAt fp1 sC.heap) σD H' s' → Nx1 H' →
                ∃ m, m < k ∧ ∃ j H', Inv (blkH X s3 H3 scope ce fp) ([] ++ pinsAt fp s7.heap) (wipe σ8 vs1) H' s' ∧ tn1 j s'.heap ∧ (∀ b ∈ fp1, H' b = none) ∧ W1 j m H' := by
              intro s' H' I' nx
              obtain ⟨m', lt, w'⟩ := hNx1 H' nx
              have stay : ∀ b ∈ fp1, ∀ o, sC.heap.get? b = some o → s'.heap.get? b = some o ∧ H' b = none := fun b hb o e =>
                let z := I'.pin (b, o) (List.mem_append_right _ (List.mem_append_right _ (mem_pinsAt hb e)))
                ⟨z.1, z.2.1⟩
              refine ⟨m', lt, j + 1, H', I'.unpinned.weak (by rw [← hwD, wipe_length]) (fun j v e => ?_), T1.keep _ _ _ stC fun b hb o e => (stay b hb o e).1, fun b hb => ?_, w'⟩
              · rw [← hwD] at e
                exact (wipe_some e).1
              · obtain ⟨o, e, _⟩ := T1.obj _ _ stC b hb
                exact (stay b hb o e).2
            cases b1 with
            | false =>
              simp only [Bool.false_eq_true, if_false] at qE ⊢
              exact end1 IE qE
            | true =>
              simp only [if_true] at qE ⊢
              refine thnF (pe.run _ sE σD HE _ IE qE) fun z sF ⟨yv, HF, IF, rF, acc, hDF, hzF, nx⟩ => ?_
              exact app_ok (X := blkH X s3 H3 scope ce fp) IF hDF hzF rF fun sG IG => end1 IG nx
        exact compStart1_ok inner (T1.self X.A 0 _ _ _ st11 inner)
  exact codeAny_compStart_list loop (T.self X.A 0 _ _ _ st4 loop)
/-- as a value -/
theorem pe_lc2H (hc : HotC X) (nd : X.N.Nodup) (hi : PIH X tg iter wi) (ok : BlkOk X.N X.env.scope scope own) (hv : ∀ i ∈ vs1, i ∈ own.map (·.2)) (hg : Allc X scope fun Y => PG Y tg g) (ht : Allc X scope fun Y => PTs Y ifs tt) (hi1 : Allc X scope fun Y => PIH Y tg1 iter1 wi1) (hg1 : Allc X scope fun Y => PG Y tg1 g1) (ht1 : Allc X scope fun Y => PTs Y ifs1 tt1) (he : Allc X scope fun Y => PE Y elt te)
    (hs : ∀ x, foldedSetIterable iter X.env x = pure x := by intro _; rfl) (hs1 : ∀ env x, foldedSetIterable iter1 env x = pure x := by intro _ _; rfl) : PE X (.ListComp elt [⟨tg, iter, ifs, 0⟩, ⟨tg1, iter1, ifs1, 0⟩] scope pos) (tLc2 wi g tt wi1 g1 tt1 te (own.map (·.2)) vs1) := by
  refine ⟨fun pins s σ H Q I h => ?_⟩
  rw [eval_ListComp]
  refine core2_H hc nd I hi ok hg ht he hs hv hi1 hg1 ht1 hs1 h fun D C s' m H' I' q n f => ⟨m, n, fun g sb => ?_⟩
  obtain ⟨f0, f1, f2, f3, f4, f5⟩ := f
  exact ⟨.ref D, H', I'.turned (t' := s'.toks) (fun b o ne e => (sb.2 b ne).trans e) f0 f1 f3 f4 f5, rfl, q⟩
end
end Hw

/-! A tuple unpacked where an exception is handled. -/
namespace Hw
open PySem PySem.Spec PyProof.Rows L2 L2H HotX
section
variable {prog : Program} {w : World} {A : Around} {E : Value → Shared → Prop} {s : Shared}
theorem tup_end {it l x1 : Addr} {i : Nat} {items : Array Value} {Q : Option Value → Shared → Prop} (hot : HotAt A x1 s.heap) (ne : x1 ≠ it) (st : s.heap.IsTupleIter it l i) (hl : s.heap.IsTuple l items) (hx : items[i]? = none)
    (q : ∀ g, Heap.ExtBut it s.heap g → Q none { s with heap := g }) : wpAny (model prog w) A (pyNext (.ref it)) Q E s := by
  obtain ⟨o, e1, e2, e3⟩ := id st
  obtain ⟨ol, f1, _, n, f3⟩ := hl
  unfold pyNext
  refine wpAny_bind (wpAny_attempt (wpAny_callSpecial?_slot (name := Str.ofString "__next__") st.typeIs F.slot_tuple_iterator_next (wpAny_call_entry F.slot_tuple_iterator_next st.typeIs F.entry_tuple_iterator_next ?_ (F.args_tuple_iterator_next_1 _))))
  show wpAny _ _ (field (.ref it) 0 >>= _) _ _ s
  refine wpAny_bind (wpAny_field e1 e3 (x := .ref l) rfl ?_)
  rw [if_neg (show ¬ ((Value.ref l == Value.none) = true) by simp)]
  refine wpAny_bind (wpAny_field e1 e3 (x := .int i 0) rfl ?_)
  show wpAny _ _ (seqItems? (.ref l) >>= _) _ _ s
  refine wpAny_bind (wpAny_seqItems f1 f3 ?_)
  simp only [Int.toNat_natCast, hx]
  refine wpAny_bind (wpAny_rule (wpAny_bind (wpAny_setField e1 e3 (by simp) (stop_hot (hot_upd (s := s) hot ne) fun g a o2 k g1 g2 => ?_))))
  exact wpAny_bind (wpAny_isInstance (T := "StopIteration") (b := true) ⟨o2, g1, g2⟩ isSubtype_stop (wpAny_pure (q g (upd_then k))))
theorem unpack_hot {t x1 : Addr} {items : Array Value} {targets : List (Bool × (Value → Sem Unit))} {Q : Unit → Shared → Prop} (hot : HotAt A x1 s.heap) (ht : s.heap.IsTuple t items) (hn : targets.length = items.size) (hstar : targets.findIdx? (·.1) = none)
    (h : ∀ g, Heap.ExtBut s.heap.objs.size s.heap g → wpAny (model prog w) A (assignInOrder (targets.map (·.2)) items.toList) Q E { s with heap := g }) : wpAny (model prog w) A (unpack (.ref t) targets) Q E s := by
  have lt : t ≠ s.heap.objs.size := by obtain ⟨o, e, _⟩ := ht; exact Nat.ne_of_lt (Heap.lt_size e)
  obtain ⟨hh, o1, v1, k1, k2, k3⟩ := id hot
  have lx := Heap.lt_size k1
  unfold unpack
  rw [hn, hstar]
  refine wpAny_bind (wpAny_holding ?_)
  unfold unpackItems
  refine wpAny_bind ?_
  unfold notIterableAtAll
  refine wpAny_bind (wpAny_specialOf ht.typeIs F.slot_tuple_iter.lookup (wpAny_pure ?_))
  simp only [Bool.false_eq_true, if_false]
  refine wpAny_bind (wpAny_holding (wpAny_pyIter_tuple ht (wpAny_bind (wpAny_holding (wpAny_draw_tuple lt items.size 0 _ _ ⟨_, Heap.get?_push_size _ rfl, rfl, rfl⟩ (ht.push _) (by omega) fun g1 st1 sb1 => ?_)))))
  have whole : List.take items.size (List.drop 0 items.toList) = items.toList := by rw [List.drop_zero]; exact List.take_of_length_le (by simp)
  rw [whole, if_neg (by simp)]
  have ht1 : g1.IsTuple t items := (ht.push _).extBut sb1.extBut lt
  have hot1 : HotAt A x1 g1 := ⟨hh, o1, v1, sb1.extBut _ _ (Nat.ne_of_lt lx) (Heap.get?_push_of_some _ k1), k2, k3⟩
  refine wpAny_bind (wpAny_holding (tup_end (s := { s with heap := g1 }) hot1 (Nat.ne_of_lt lx) st1 ht1 (by simp) fun g2 eb => ?_))
  simp only [Option.isSome_none, Bool.false_eq_true, if_false]
  exact wpAny_pure (h g2 fun b o ne e => eb b o ne (sb1.extBut b o ne (Heap.get?_push_of_some _ e)))
end
theorem pg_tupH {X : Cx} {es : List Expr} {k : Nat} {t : TGs} {n : Nat} {pos : Pos} (hc : HotC X) (h : PGs X es t) (hn : (assignEach es X.env).length = n := by rfl) (hst : (assignEach es X.env).findIdx? (·.1) = none := by rfl) : PG X (.Tuple es k pos) (gTup X.K n t) := by
  refine ⟨fun pins s σ H v u Q I r hw => ?_⟩
  obtain ⟨a, xs, rfl, hq, hl, hw⟩ := hw
  cases r
  obtain ⟨its, rv, ht, hz⟩ := I.tuple hq
  obtain ⟨x1, hot⟩ := hc.at I
  rw [arm_assign_Tuple]
  refine wpAny_bind (wpAny_standAt (unpack_hot hot (show s.heap.IsTuple a its.toArray from ht) (by simp [hn, ← hl, rv.length]) hst fun g x => ?_))
  exact h.run pins _ σ H xs _ Q (I.kept (t' := s.toks) fun b o e => x b o (Nat.ne_of_lt (Heap.lt_size e)) e) (by simpa using rv) hw
end Hw

/-! len(set(texts)) where an exception is handled. -/
namespace Sl
open PySem PySem.Spec PyProof.Rows
section
variable {prog : Program} {w : World} {A : Around} {E : Value → Shared → Prop} {s : Shared}
theorem set_strsH {l : Addr} {its : Array Value} {xs : List Str} {Q : Value → Shared → Prop} {x1 : Addr} {o1 : Obj} {vs1 : Array Value} (hh : A.handled = some (.ref x1)) (d1 : o1.data = .fields vs1) (cN : vs1[2]? = some .none) (g1 : s.heap.get? x1 = some o1) (hl : s.heap.IsList l its) (hi : PyProof.Rows.StrsAre its.toList xs) (hb : xs.length + 1 < scanBound)
    (q : ∀ (g : Heap) (tk c : Nat), Cnt xs xs.length c → g.SetOf (PySem.strKind prog w) s.heap.objs.size (fun y => decide (y ∈ xs.take xs.length)) c → (∀ b o, b < s.heap.objs.size → s.heap.get? b = some o → g.get? b = some o) → Q (.ref s.heap.objs.size) { s with heap := g, toks := tk }) :
    wpAny (model prog w) A (call (.type "set") [.ref l]) Q E s := by
  obtain ⟨c0, tl0, m0⟩ := PySem.F.called_set.mro
  have a1 := PySem.F.called_set.made
  have a2 := PySem.F.called_set.sub
  refine wpAny_call (codeAny_of_tree ?_)
  show wpAny _ _ (callAny (.type "set") _) _ _ _
  refine wpAny_pure ⟨Code.quiet_builtin _ (by decide +kernel), codeAny_builtin PySem.F.entry_type_call ?_⟩
  rw [Around.under_plain (weight_type_call_type "set" [.ref l] []) rfl]
  have a3 := PySem.F.called_set.notType
  have a4 := PySem.F.called_set.canCreate
  have a5 := PySem.F.typeCall_set_1 (.ref l)
  repeat (any_goals (first | assumption | wp_step))
  refine codeAny_mono (code_set_new_1 (.ref l) (E := E) (Q₁ := fun ob s₁ => ∃ led : Bool, ob = .ref s.heap.objs.size ∧ s₁ = { s with heap := s.heap.push { cls := .type "set", dict := none, data := .set #[] 0 (.fresh 0 0 led) } }) fun led => ⟨led, rfl, rfl⟩) fun r s₁ hr => ?_
  cases r with
  | error e => exact hr
  | ok fl =>
    cases fl with
    | ret ob =>
      obtain ⟨led, rfl, rfl⟩ := hr
      generalize hso : ({ cls := .type "set", dict := none, data := .set #[] 0 (.fresh 0 0 led) } : Obj) = so
      have hfr : so.isFreed = false := by rw [← hso]; rfl
      have b1 : (s.heap.push so).get? s.heap.objs.size = some so := Heap.get?_push_size _ hfr
      have b2 : Shared.TypeIs { s with heap := s.heap.push so } (.ref s.heap.objs.size) "set" := ⟨_, b1, by rw [← hso]⟩
      have b3 := PySem.F.called_set.init.lookup
      have b4 := PySem.F.called_set.init.bind (.ref s.heap.objs.size)
      repeat (any_goals (first | assumption | wp_step))
      refine codeAny_mono (codeAny_call_builtin (R := wants (fun r s₂ => r = .none ∧ ∃ g tk c, s₂ = { s with heap := g, toks := tk } ∧ Cnt xs xs.length c ∧ g.SetOf (PySem.strKind prog w) s.heap.objs.size (fun y => decide (y ∈ xs.take xs.length)) c ∧
          (∀ b o, b < s.heap.objs.size → s.heap.get? b = some o → g.get? b = some o)) E) PySem.F.called_set.init.plain PySem.F.entry_set_init (check_set_init_1 b2 ?_)) fun r₂ s₂ hr₂ => ?_
      · obtain ⟨ol, hol, hcl, nl, hdl⟩ := hl
        obtain ⟨ocls, odict, odata, oslots⟩ := ol
        simp only at hcl hdl
        subst hcl hdl
        have hol' : (s.heap.push so).get? l = some { cls := .type "list", dict := odict, data := .seq its nl, slots := oslots } := Heap.get?_push_of_some _ hol
        have c1 := PySem.F.sub_list_set
        have c2 := PySem.F.sub_list_frozenset
        have c3 : (Value.type "list" == Value.type "dict") = false := by decide
        have hl1 : (s.heap.push so).IsList l its := ⟨_, hol', rfl, nl, rfl⟩
        unfold Builtin.«set.__init__» noKeywords Builtin.Frozenset.updateFrom
        generalize hPI : pyIter = PI
        have ll : l < s.heap.objs.size := Heap.lt_size hol
        have nI : ∀ ob : Obj, l ≠ (s.heap.push ob).objs.size := fun ob => by
          rw [Heap.size_push]
          exact Nat.ne_of_lt (Nat.lt_succ_of_lt ll)
        have lx : x1 < s.heap.objs.size := Heap.lt_size g1
        have nX : ∀ ob : Obj, x1 ≠ (s.heap.push ob).objs.size := fun ob => by
          rw [Heap.size_push]
          exact Nat.ne_of_lt (Nat.lt_succ_of_lt lx)
        have nS : ∀ ob : Obj, s.heap.objs.size ∉ [(s.heap.push ob).objs.size, l, x1] := fun ob => by
          rw [Heap.size_push]
          simp only [List.mem_cons, List.mem_singleton, List.not_mem_nil, or_false, not_or]
          exact ⟨Nat.ne_of_lt (Nat.lt_succ_self _), Nat.ne_of_gt ll, Nat.ne_of_gt lx⟩
        have nB : ∀ (ob : Obj) (b : Addr), b < s.heap.objs.size → b ≠ (s.heap.push ob).objs.size := fun ob b lb => by
          rw [Heap.size_push]
          exact Nat.ne_of_lt (Nat.lt_succ_of_lt lb)
        subst hso
        wp_walk
        subst hPI
        refine wpAny_pyIter_list hl1 ?_
        refine wpAny_bind (wpAny_runValue ?_)
        have hh3 : A.in1.in1.in1.handled = some (.ref x1) := by simp [hh]
        have sz : xs.length = its.size := by rw [← StrsAre.len_eq hi, Array.length_toList]
        have hval : ∀ (i : Nat) (v : Value), its[i]? = some v → ∃ x t, xs[i]? = some x ∧ v = .str x t := fun i v hv => by
          have li : i < xs.length := by
            rw [sz]
            exact (Array.getElem?_eq_some_iff.mp hv).1
          obtain ⟨t, e⟩ := SS.strs_at hi i v (by rw [Array.getElem?_toList]; exact hv)
          refine ⟨xs[i], t, List.getElem?_eq_getElem li, ?_⟩
          rw [e, List.getD_eq_getElem?_getD, List.getElem?_eq_getElem li]
          rfl
        refine fill ((Hw.walks hh3 d1 cN _ l (nI (so led)) (nX (so led)) its).toS) s.heap.objs.size (nS (so led)) xs sz (by rw [← sz]; exact hb) hval (its.size - 0) 0 _ (by omega) (Nat.zero_le _)
          ⟨⟨⟨_, Heap.get?_push_size _ rfl, rfl, rfl⟩, (hl1.push _)⟩, Heap.get?_push_of_some _ (Heap.get?_push_of_some _ g1)⟩ ?hS0 ?hR
        case hS0 =>
          exact ⟨0, cnt_zero xs, PyProof.Rows.SetOf_congr ((PyProof.Rows.setObjOf_fresh (knd := PySem.strKind prog w) led).setOf (Heap.get?_push_of_some _ b1) (by unfold scanBound; omega)) (fun _ => by simp) rfl⟩
        case hR =>
          intro s' c' hm hc' hS'
          obtain ⟨g, g', d', tk', os'⟩ := s'
          have eg : g' = s.gens := hm.gens
          have ed : d' = s.drawn := hm.drawn
          have eo : os' = s.os := hm.os
          subst eg ed eo
          show wpAny _ _ _ _ _ _
          refine wpAny_pure ?_
          show wpAny _ _ (ret Value.none) _ _ _
          rw [← sz] at hc' hS'
          refine wpAny_pure ⟨rfl, g, tk', c', rfl, hc', hS', fun b o lb e => ?_⟩
          have n1 : b ≠ s.heap.objs.size := Nat.ne_of_lt lb
          have n2 := nB (so led) b lb
          exact hm.heap b o (by simp only [List.mem_cons, List.mem_singleton, List.not_mem_nil, or_false, not_or]; exact ⟨n1, n2⟩) (Heap.get?_push_of_some _ (Heap.get?_push_of_some _ e))
      · cases r₂ with
        | error e => exact hr₂
        | ok fl₂ =>
          cases fl₂ with
          | ret r =>
            obtain ⟨rfl, g, tk, c', rfl, hc', hS', hk'⟩ := hr₂
            repeat (any_goals (first | assumption | wp_step))
            exact q _ _ _ hc' hS' hk'
          | _ => exact hr₂.elim
    | _ => exact hr.elim
end
end Sl
namespace Sl
open PySem PySem.Spec PyProof.Rows L2
section
variable {X : Cx}
theorem pe_lenH {a : Expr} {ta : TE} {p p2 q pos : Pos} (hc : L2H.HotC X) (hg : Gl X "len") (hm : X.mg "len" = none) (hg2 : Gl X "set") (hm2 : X.mg "set" = none) (ha : PE X a ta)
    (na : starEach [a] X.env = (false, eval a X.env) :: starEach [] X.env := by rfl) : PE X (.Call (.Name "len" p) [.Call (.Name "set" p2) [a] [] q] [] pos) (tLen X.K ta) := by
  refine ⟨fun pins s σ H Q I h => ?_⟩
  refine Call_ (ld_blt I hg hm boot_len ?_)
  refine PyProof.Rows.callWith_builtin1 (PyProof.Rows.args_cons ?_ rfl) rfl rfl
  refine Call_ (ld_blt I hg2 hm2 boot_set ?_)
  refine PyProof.Rows.callWith_type1 (PyProof.Rows.args_cons (thn (ha.run pins s σ H _ I h) fun v s1 ⟨x, H1, I1, r1, q1⟩ => PyProof.Rows.args_nil ?_) na) na rfl
  obtain ⟨l, xs, ev, hq, hl, k⟩ := q1
  subst ev
  cases r1
  obtain ⟨its, r, pl, hz⟩ := I1.list hq
  obtain ⟨x1, o1, vs1, hh, d1, c1, g1, _⟩ := Hw.hot_new hc I1
  refine set_strsH hh d1 c1 g1 pl.isList (by simpa using strsAre_of r) (by unfold scanBound; omega) fun g tk c hcn hS hk => ?_
  refine PyProof.Rows.args_nil ?_
  obtain ⟨o, es, ep, t, ho, hex, hd, _, _, _, hf, hn⟩ := hS
  have I2 : Inv X pins σ H1 { s1 with heap := g, toks := tk } := I1.kept fun b o e => hk b o (Heap.lt_size e) e
  have := hcn.1
  refine call_len_set ho hex hd hf (by rw [hn] <;> omega) ⟨.int (c : Nat), H1, I2.tok _, ⟨_, by rw [hn]⟩, k c hcn⟩
end
end Sl

/-! A def of the text called where an exception is handled. -/
namespace Hw
open PySem PySem.Spec PyProof.Rows L2 L2H HotX
section
variable {P : Program} {w : World} {K : PySem.W.Frag} {mg : Str → Option Value} {base : Heap}
theorem okH {x qual : Str} {st : Stmt} {f : Addr} {fd : FuncData} {N ps : List Str} {k : Nat} {sp : Sp} (F : Fun K x qual st f fd) (S : FnScope N ps (defScope st)) (len : ∀ vs H Q E, sp vs H Q E → vs.length = ps.length)
    (body : ∀ (cdv : Value) (A : Around) (outer : List Env) (s : Shared) (H : Hp) (vs : List V) (Q : VK) (E : XK) (p : Addr × Obj), HotC (cxH CX0 P w K mg base N qual (defScope st) f cdv A outer s H E p).nox → RoomH k (A.deeper (envOfC qual (defScope st) s.heap.objs.size f cdv)) → sp vs H Q E →
      ∃ t, PSs (cxH CX0 P w K mg base N qual (defScope st) f cdv A outer s H E p).nox (defBody st) t ∧ t { nx := fun _ H' => Q .non H', rt := Q } (start N vs) H) : FnH P w K mg base CX0 (k + 1) f fd ps sp := by
  obtain ⟨oc, od, kV, doc, pm, an, cdv, ct, osl, rfl, lk, hcd⟩ := F.ex
  refine fn_ofH lk hcd S len fun A outer s H vs Q E p hot hr h => ?_
  obtain ⟨t, r, q⟩ := body cdv A outer s H vs Q E p ⟨p, hot, List.mem_singleton.mpr rfl⟩ hr h
  exact ⟨t, r.nox, q⟩
theorem okC {CX : CXT} {x qual : Str} {st : Stmt} {f : Addr} {fd : FuncData} {N ps : List Str} {k : Nat} {sp : Sp} (F : Fun K x qual st f fd) (S : FnScope N ps (defScope st)) (len : ∀ vs H Q E, sp vs H Q E → vs.length = ps.length)
    (body : ∀ (cdv : Value) (A : Around) (outer : List Env) (s : Shared) (H : Hp) (vs : List V) (Q : VK) (E : XK), Room k (A.deeper (envOfC qual (defScope st) s.heap.objs.size f cdv)) → sp vs H Q E →
      ∃ t, PSs (cxOf CX P w K mg base N qual (defScope st) f cdv A outer s H E) (defBody st) t ∧ t { nx := fun _ H' => Q .non H', rt := Q } (start N vs) H) : FnOk P w K mg base CX (k + 1) f fd ps sp := by
  obtain ⟨oc, od, kV, doc, pm, an, cdv, ct, osl, rfl, lk, hcd⟩ := F.ex
  exact fn_of lk hcd S len fun A outer s H vs Q E hr h => body cdv A outer s H vs Q E hr h
theorem passH {X : Cx} (σ : L2.St) : PassesAt CX0 X σ E0 := fun _ _ _ _ _ _ z => z.elim
end
end Hw

/-! The suite that raises from: what is handled there, the room, readings of the suite. -/
namespace Hw
open PySem PySem.Spec PyProof.Rows L2 L2H HotX
section
variable {X : Cx} {a : Addr} {oe : Obj} {cls : Value} {d : Option Addr} {pn : List (Addr × Obj)} {xe : Value → Shared → Prop}
theorem hot_sx (hz : L2N.Zn cls d oe) (hf : ∃ vs, oe.data = .fields vs) : HotC (Rf.sx X a ((a, oe) :: pn) xe) := by
  obtain ⟨vs, e⟩ := hf
  exact ⟨(a, oe), ⟨rfl, vs, e, hz.2.2 vs e⟩, List.mem_cons_self⟩
theorem room_sx {k : Nat} (hr : Room k X.A) : RoomH k (Rf.sx X a pn xe).A := ⟨hr.dp, hr.un⟩
theorem depth_sx {k : Nat} (hr : Room k X.A) : (Rf.sx X a pn xe).A.depth + 1 < recursionLimit := by
  have h := hr.dp
  show X.A.depth + 1 < recursionLimit
  omega
theorem pe_sx {e : Expr} {t : TE} (p : PE (X.suite a pn) e t) : PE (Rf.sx X a pn xe) e t :=
  ⟨fun pins s σ H Q I h => wpAny_mono (p.run pins s σ H Q (Rf.of_sx I) h) (fun _ _ ⟨x, H1, I1, r, q⟩ => ⟨x, H1, Rf.to_sx I1, r, q⟩) fun _ _ z => z.elim⟩
end
end Hw

/-! No run takes a token back: what is evaluated behind a literal stands behind a token; text.replace(literal, literal) there. -/
namespace Tk0
open PySem PySem.Spec PyProof.Rows L2
theorem runs_toks {M : Model} {Γ : PySem.Ctx} {p : Pos} {t : Sem Fin} {fs : List Frame} {s s' : Shared} {e : End} (r : Runs M Γ p t fs s e s') : s.toks ≤ s'.toks := by
  induction r <;> first
    | exact Nat.le_refl _
    | assumption
    | exact Nat.le_of_succ_le (by assumption)
    | (rename_i a b; exact Nat.le_trans a b)
    | (rename_i a b c d; exact Nat.le_trans b d)
    | (rename_i h1 h2 a b; exact Nat.le_trans (show _ from a) b)
    | (rename_i h0 h1 h2 h3 a b; exact Nat.le_trans (show _ from a) b)
    | (rename_i h0 h1 h2 a b; exact Nat.le_trans (show _ from a) b)
theorem wakes_toks {M : Model} {Γ : PySem.Ctx} {p : Pos} {g : Nat} {r : Resume} {s s' : Shared} {res : GenResult} (h : Wakes M Γ p g r s res s') : s.toks ≤ s'.toks := by
  unfold Wakes at h
  split at h
  · exact h.elim
  · split at h
    · obtain ⟨e1, s1, r, _, _, rfl⟩ := h
      have q := runs_toks r
      exact q
    · rw [h.2]
      exact Nat.le_refl _
    · rw [h.2]
      exact Nat.le_refl _
  · obtain ⟨e1, s1, r, _, _, rfl⟩ := h
    have q := runs_toks r
    exact q
  · rw [h.2]
    exact Nat.le_refl _
  · rw [h.2]
    exact Nat.le_refl _
theorem wp_toks {α : Type} {M : Model} {Γ : PySem.Ctx} {n : Nat} (t : Sem α) : ∀ (Q : α → Pos → Shared → Prop) (E : Value → Pos → Shared → Prop) (p : Pos) (s : Shared), n ≤ s.toks → Sem.wp M Γ t Q E p s → Sem.wp M Γ t (fun a p' s' => Q a p' s' ∧ n ≤ s'.toks) E p s := by
  induction t with
  | pure a => intro Q E p s hn h; rw [Sem.wp] at h ⊢; exact ⟨h, hn⟩
  | raise e => intro Q E p s hn h; rw [Sem.wp] at h ⊢; exact h
  | unsupported w => intro Q E p s hn h; rw [Sem.wp] at h; exact h.elim
  | finish w => intro Q E p s hn h; rw [Sem.wp] at h; exact h.elim
  | rule _ k ih => intro Q E p s hn h; rw [Sem.wp] at h ⊢; exact ih _ _ _ _ _ hn h
  | «at» _ k ih => intro Q E p s hn h; rw [Sem.wp] at h ⊢; exact ih _ _ _ _ _ hn h
  | load a _ k ih => intro Q E p s hn h; rw [Sem.wp] at h ⊢; obtain ⟨o, e, h⟩ := h; exact ⟨o, e, ih _ _ _ _ _ hn h⟩
  | update a _ f k ih => intro Q E p s hn h; rw [Sem.wp] at h ⊢; exact ⟨h.1, ih _ _ _ _ _ hn h.2⟩
  | alloc o k ih => intro Q E p s hn h; rw [Sem.wp] at h ⊢; exact ih _ _ _ _ _ hn h
  | loadIfAlive a k ih => intro Q E p s hn h; rw [Sem.wp] at h ⊢; exact ih _ _ _ _ _ hn h
  | point _ k ih => intro Q E p s hn h; rw [Sem.wp] at h ⊢; exact ih _ _ _ _ _ hn h
  | register _ k ih => intro Q E p s hn h; rw [Sem.wp] at h; exact h.elim
  | fresh k ih => intro Q E p s hn h; rw [Sem.wp] at h ⊢; exact ih _ _ _ _ _ (Nat.le_succ_of_le hn) h
  | ask k ih => intro Q E p s hn h; rw [Sem.wp] at h ⊢; exact ih _ _ _ _ _ hn h
  | choose src m k ih => intro Q E p s hn h; rw [Sem.wp] at h ⊢; exact ⟨h.1, ih _ _ _ _ _ hn h.2⟩
  | os q _ k ih => intro Q E p s hn h; rw [Sem.wp] at h ⊢; exact ih _ _ _ _ _ hn h
  | call c hd _ _ k ih =>
    intro Q E p s hn h
    rw [Sem.wp] at h ⊢
    obtain ⟨r, s1, h1, h2⟩ := h
    exact ⟨r, s1, h1, ih _ _ _ _ _ (Nat.le_trans hn (runs_toks h1)) h2⟩
  | handled own k ih => intro Q E p s hn h; rw [Sem.wp] at h ⊢; exact ih _ _ _ _ _ hn h
  | newGen c k ih => intro Q E p s hn h; rw [Sem.wp] at h ⊢; exact ih _ _ _ _ _ hn h
  | genState g k ih => intro Q E p s hn h; rw [Sem.wp] at h ⊢; obtain ⟨o, e, h⟩ := h; exact ⟨o, e, ih _ _ _ _ _ hn h⟩
  | resume g r _ k ih =>
    intro Q E p s hn h
    rw [Sem.wp] at h ⊢
    obtain ⟨r, s1, h1, h2⟩ := h
    exact ⟨r, s1, h1, ih _ _ _ _ _ (Nat.le_trans hn (wakes_toks h1)) h2⟩
  | yield _ _ _ k ih => intro Q E p s hn h; rw [Sem.wp] at h; exact h.elim
  | stack k ih => intro Q E p s hn h; rw [Sem.wp] at h ⊢; exact ih _ _ _ _ _ hn h
  | fork _ k ih => intro Q E p s hn h; rw [Sem.wp] at h; exact h.elim
  | thread k ih => intro Q E p s hn h; rw [Sem.wp] at h ⊢; exact ih _ _ _ _ _ hn h
  | await _ _ _ _ k ih => intro Q E p s hn h; rw [Sem.wp] at h; exact h.elim
theorem toks_up {α : Type} {M : Model} {A : Around} {t : Sem α} {Q : α → Shared → Prop} {E : Value → Shared → Prop} {s : Shared} (h : wpAny M A t Q E s) : wpAny M A t (fun a s' => Q a s' ∧ s.toks ≤ s'.toks) E s :=
  fun Γ p hΓ => wp_toks (n := s.toks) t _ _ p s (Nat.le_refl _) (h Γ p hΓ)
/-- an expression evaluated where some token has been handed out -/
structure PEt (X : Cx) (e : Expr) (t : TE) : Prop where
  run : ∀ (pins : List (Addr × Obj)) (s : Shared) (σ : L2.St) (H : Hp) (Q : VK), 0 < s.toks → Inv X pins σ H s → t σ H Q → wpAny (model X.prog X.w) X.A (eval e X.env) (EP X pins σ Q) X.xe s
section
variable {X : Cx} {a b e : Expr} {ta tb te : TE} {pos : Pos}
theorem PEt.of (h : PE X e te) : PEt X e te := ⟨fun pins s σ H Q _ I q => h.run pins s σ H Q I q⟩
theorem pe_opT {op : Operator} {r : R2} (ho : OpR X (binaryOp op) r) (ha : PEt X a ta) (hb : PEt X b tb) : PEt X (.BinOp a op b pos) (tOp r ta tb) := by
  refine ⟨fun pins s σ H Q z I h => ?_⟩
  refine wpAny_BinOp (thn (toks_up (ha.run pins s σ H _ z I h)) fun v s1 ⟨⟨x, H1, I1, r1, q1⟩, z1⟩ => thn (hb.run pins s1 σ H1 _ (Nat.lt_of_lt_of_le z z1) I1 q1) fun u s2 ⟨y, H2, I2, r2, q2⟩ => ho pins s2 σ H2 x y v u Q I2 r1 r2 q2)
theorem pe_lst1T (he : PEt X e te) (hs : starEach [e] X.env = [(false, eval e X.env)] := by rfl) : PEt X (.List [e] pos) (tLst fun σ H Q => te σ H fun x H1 => Q [x] H1) := by
  refine ⟨fun pins s σ H Q z I h => ?_⟩
  refine wpAny_List_spliced ?_
  rw [hs]
  refine Calls.spliced_cons (thn (he.run pins s σ H _ z I h) fun u s1 ⟨x, H1, I1, r, zz, q⟩ => Calls.spliced_nil ⟨by show 1 ≤ sizeLine; decide, ?_⟩)
  have hf : H1 s1.heap.objs.size = none := I1.hok.fresh (Nat.le_refl _)
  refine ⟨.ref s1.heap.objs.size, upd H1 s1.heap.objs.size (.lst [x]), I1.laid (t' := s1.toks) (fun b u e => Heap.get?_push_of_some _ e) (Nat.le_refl _) ⟨zz, [u], 0, .cons r .nil, Heap.get?_push_size _ rfl⟩, rfl, q _ hf⟩
theorem pe_replaceT {o : Expr} {to : TE} {y z : Str} {j1 j2 : Nat} {apos p1 p2 : Pos} (ho : PE X o to) (hyz : (y == z) = false) (hbase : attributeBase o "replace" X.env (eval o X.env) = eval o X.env := by rfl) (hline : (apos.endLine == pos.line) = true := by rfl) :
    PEt X (.Call (.Attribute o "replace" apos) [.Constant (.str y) j1 p1, .Constant (.str z) j2 p2] [] pos) (fun σ H Q => to σ H fun x H1 => ∃ t : Str, x = .str t ∧ t.length + (t.length + 1) * z.length ≤ 16777216 ∧ Q (.str (Txt.replace t y z)) H1) := by
  refine ⟨fun pins s σ H Q zz I h => ?_⟩
  refine PySem.Call_method2 hbase rfl hline (thn (toks_up (ho.run pins s σ H _ I h)) fun v s1 ⟨⟨x, H1, I1, r1, q1⟩, z1⟩ => ?_)
  obtain ⟨t, rfl, hb, q⟩ := q1
  obtain ⟨tk, rfl⟩ := r1
  refine ⟨"str", _, F.plainAttrs_str, F.slot_str_replace, F.type_str_replace, typeIs_str _ _ _, (fun _ e => nomatch e), Calls.callWith_builtin rfl (Calls.evalArgs_plain (Calls.spliced_cons (Calls.Constant_str (Calls.spliced_cons (Calls.Constant_str (Calls.spliced_nil ?_))))))⟩
  have z2 : 0 < s1.toks := Nat.lt_of_lt_of_le zz z1
  exact PySem.SC.replace (Nat.pos_iff_ne_zero.mp z2) (Nat.succ_ne_zero _) (Nat.ne_of_lt (Nat.lt_succ_self _)) hyz hb fun t' k => ⟨.str (Txt.replace t y z), H1, I1.tok k, ⟨t', rfl⟩, q⟩
/-- if name == number: return that -/
theorem ps_ifT {c : Int} {j : Nat} {cp ip rp : Pos} {op : CmpOp} {r : R2} {orelse : List Stmt} {u : TS} (ho : OpR X (compareOp op) r) (ha : PE X a ta) (he : PEt X e te) (hu : PSs X orelse u) (hm : behindInMarks op (.Constant (.int c) j cp) = false) :
    PS X (.If (.Compare a [op] [.Constant (.int c) j cp] pos) [.Return (some e) rp] orelse ip) (tIfS (tTest (tOp r ta (tC (.int c)))) (fun D σ H => te σ H D.rt) u) := by
  refine ⟨fun pins s σ H D I h => ?_⟩
  refine wpAny_If (wpAny_isTrue_Compare1 (thn (ha.run pins s σ H _ I h) fun v s1 ⟨x, H1, I1, r1, q1⟩ => wpAny_Constant_int (thn (toks_up (ho pins { s1 with toks := s1.toks + 1 } σ H1 x (.int c) v _ _ (I1.tok _) r1 ⟨_, rfl⟩ q1)) fun d s3 ⟨⟨z, H3, I3, r3, k, ek, q3⟩, z3⟩ => ?_)) hm)
  subst ek
  cases r3
  refine wpAny_truthy_bool ?_
  have pos3 : 0 < s3.toks := Nat.lt_of_lt_of_le (Nat.succ_pos _) z3
  cases k with
  | true => exact wpAny_execs_cons (wpAny_Return_some (thn (he.run pins s3 σ H3 _ pos3 I3 q3) fun v s4 ⟨x, H4, I4, r4, q4⟩ => ⟨x, σ, H4, I4, r4, q4⟩))
  | false => exact hu.run pins s3 σ H3 D I3 q3
end
end Tk0

/-! name = [..]: a comprehension whose item may let an exception out of the def, stored under a name of the def. -/
namespace Lr2
open PySem PySem.Spec PyProof.Rows L2
section
variable {M : Model} {A : Around} {E : Value → Shared → Prop} {s : Shared} {env : Env}
/-- noting asks for the frame alone -/
theorem note_same {e : Value} {v u : Env} (h : v.frame = u.frame) : noteFrame e v = noteFrame e u := by
  unfold noteFrame PySem.frameOf
  rw [h]
/-- noted by the frame that we stand in -/
theorem sky_noted {outer : List Env} {L a : Addr} {Z : Obj → Prop} {B : Heap} {Q : Unit → Shared → Prop} (hZ : HandSPX.Steady Z) (hfr : A.frames = some (env :: outer)) (hf : env.frame = some L) (x : Sky B (env :: outer) a Z L s.heap)
    (k : ∀ h', HandSPX.HeldZ B (env :: outer) a Z L h' → s.heap.UpToSlots h' → Q () { s with heap := h' }) : wpAny M A (noteFrame (.ref a) env) Q E s := by
  rcases x with ⟨b1, b2, b3, oe, vs, q1, q2, q3, q4⟩ | q | q
  · exact HandSPX.look_newZ hZ hfr b3 hf q1 b1 b2 q3 q4 q2 k
  · exact HandSPX.looks_onZ hZ hfr hf q k
  · exact HandSPX.againZ hf q.2.2.2 (k s.heap q (Heap.UpToSlots.refl _))
/-- what the block's end asks, with the block's own environment told -/
def Post (M : Model) (A : Around) (E : Value → Shared → Prop) (Good : Shared → Prop) (acc : Value) (ce : Env) (r : Result) (s' : Shared) : Prop :=
  match r with
    | .ok _ => Good s'
    | .error x => ∃ m, s'.heap.Ns ce.locals m ∧ ∀ h', Heap.SameBut ce.locals s'.heap h' → wpAny M A (PySem.passOn "comprehension.variables-let-go" x ce : Sem Value) (fun _ _ => False) E { s' with heap := h' }
abbrev Used (M : Model) (A : Around) (E : Value → Shared → Prop) (use : Value → Sem Unit) (Q : Value → Shared → Prop) (acc : Value) (ce : Env) (s' : Shared) : Prop :=
  wpAny M A (use acc) (fun _ s2 => ∃ m, s2.heap.Ns ce.locals m ∧ ∀ h', Heap.SameBut ce.locals s2.heap h' → Q .none { s2 with heap := h' }) E s'
theorem comp_in {e : Expr} {scope : Scope} {pos : Pos} {mk first : Sem Value} {use : Value → Sem Unit} {g : Comprehension} {gs : List Comprehension} {cl : List (Str × Addr)} {Q : Value → Shared → Prop}
    (h1 : clausesOf e = g :: gs) (h2 : ∀ x, foldedSetIterable g.iter env x = pure x) (h3 : closureFor scope env = pure cl) (h4 : scope.kind = .function) (h5 : ∀ x ∈ scope.names, x.2 = .local → scope.names.lookup x.1 = some .local)
    (h : wpAny M A first (fun x s1 => wpAny M A (pyIter x) (fun it s2 => wpAny M A mk (fun acc s3 => wpAny M A (newFunctionEnv scope env.globals cl [] env.qual none .none (some env)) (fun ce s4 =>
      codeAny M A (.compStart e 0 it acc { ce with scope := relabel scope env }) (Post M A E (Used M A E use Q acc { ce with scope := relabel scope env }) acc { ce with scope := relabel scope env }) s4) E s3) E s2) E s1) E s) :
    wpAny M A (comprehension e scope env pos mk false first (some use)) Q E s := by
  have up : ∀ {α : Type} {t : Sem α} {P P' : α → Shared → Prop} {z : Shared}, wpAny M A t P E z → (∀ a y, P a y → P' a y) → wpAny M A t P' E z := fun a b => wpAny_mono a b fun _ _ c => c
  unfold comprehension
  rw [h3, h1]
  refine wpAny_bind (up h fun x s1 k1 => ?_)
  refine wpAny_bind (wpAny_standAt ?_)
  refine wpAny_bind (wpAny_of_eq (h2 x) ?_)
  refine wpAny_bind (wpAny_holding (up k1 fun it s2 k2 => ?_))
  refine wpAny_standIf (wpAny_bind (up k2 fun acc s3 k3 => ?_))
  refine wpAny_bind (wpAny_pure (wpAny_bind (up k3 fun ce s4 k4 => ?_)))
  dsimp only
  have own : ∀ y ∈ (scope.names.filter fun x => (x.2 == .local || x.2 == .cell) && x.1 != (".0" : Str)).reverse, y.2 = .local → Env.kindOf { ce with scope := relabel scope env } y.1 = some .local :=
    fun y hy hl => lookup_relabel_local (h5 y (List.mem_filter.mp (List.mem_reverse.mp hy)).1 hl)
  refine wpAny_holding (wpAny_bind (wpAny_attempt (wpAny_holding (wpAny_run (codeAny_mono k4 fun r s' hr => ?_)))))
  cases r with
  | ok f =>
    have own2 : ∀ y ∈ (scope.names.filter fun x => (x.2 == .local || x.2 == .cell) && x.1 != (".0" : Str)).reverse.drop 1 ++ (scope.names.filter fun x => (x.2 == .local || x.2 == .cell) && x.1 != (".0" : Str)).reverse.take 1, y.2 = .local → Env.kindOf { ce with scope := relabel scope env } y.1 = some .local := by
      intro y hy hl
      rcases List.mem_append.mp hy with z | z
      · exact own y (List.mem_of_mem_drop z) hl
      · exact own y (List.mem_of_mem_take z) hl
    refine wpAny_bind (wpAny_rule (wpAny_bind (wpAny_holding (up hr fun _ s2 more => ?_))))
    obtain ⟨m, hn, go⟩ := more
    exact wpAny_bind (wpAny_comp_letGo (cenv := { ce with scope := relabel scope env }) h4 _ s2 m own2 hn fun h' _ _ sb => wpAny_pure (go h' sb))
  | error x =>
    obtain ⟨m, hn, go⟩ := hr
    exact wpAny_bind (wpAny_holding (wpAny_comp_letGo (cenv := { ce with scope := relabel scope env }) h4 _ s' m own hn fun h' _ _ sb => wpAny_mono (go h' sb) (fun _ _ z => z.elim) fun _ _ z => z))
end
section
variable {X : Cx} {pins : List (Addr × Obj)} {σ : L2.St} {H : Hp} {s : Shared}
/-- what a comprehension's item lets out; C is the object of the block's own names -/
def Out (X : Cx) (W : WX) (C : Addr) (u : Value) (s' : Shared) : Prop :=
  ∃ (a : Addr) (B : Heap) (t : Shared) (σ : L2.St) (H : Hp) (cls : Value) (d : Option Addr), u = .ref a ∧ Inv X [] σ H t ∧ (∀ b o, t.heap.get? b = some o → b ∉ frs X.stack → B.get? b = some o) ∧ t.heap.UpToSlots s'.heap ∧
    Sky B X.stack a (Zc cls d) X.env.locals s'.heap ∧ H a = none ∧ s'.os = t.os ∧ AllBare s'.gens ∧ W cls d σ H ∧ H C = none ∧ ∃ m, s'.heap.Ns C m
/-- a block that has begun at s -/
def Began (X : Cx) (s : Shared) (H : Hp) (C : Addr) (fp : List Addr) : Prop := C = s.heap.objs.size ∧ ∃ (pins : List (Addr × Obj)) (σ : L2.St), Inv X pins σ H s ∧ ∀ b ∈ fp, FpOk X pins H b
theorem Began.back {C : Addr} {fp pl : List (Addr)} {xe : Value → Shared → Prop} {scope : Scope} {cl : List (Str × Addr)} {pn p6 : List (Addr × Obj)} {σ6 : L2.St} {H6 : Hp} {s6 : Shared} (bg : Began X s H C fp)
    (J : Inv ((X.blk s H scope (compEnvC scope cl C X.env) fp).tr pn xe) p6 σ6 H6 s6) : ∃ pins σ, Inv X pins σ H6 s6 := by
  obtain ⟨_, pins, σ, I, hf⟩ := bg
  exact ⟨pins, σ, I.call' (ch := fp) J.os J.base J.hok J.bare fun b hb => let z := hf b hb; ⟨z.2.2.2.1, z.2.1, z.2.2.2.2.1, z.2.2.2.2.2⟩⟩
theorem out_pass {W : WX} {C : Addr} {fp : List Addr} {scope : Scope} {cl : List (Str × Addr)} {pn : List (Addr × Obj)} (bg : Began X s H C fp) (σ6 : L2.St) :
    PassesAt (CX X.prog X.w) ((X.blk s H scope (compEnvC scope cl C X.env) fp).tr pn (Out X W C)) σ6 (fun cls d H' => ∀ τ : L2.St, τ.length = X.N.length → W cls d τ H') := by
  intro p6 H6 s6 e s' J c
  obtain ⟨pins, σ, I⟩ := bg.back (pl := []) J
  obtain ⟨hC, p0, σ0, I0, _⟩ := bg
  obtain ⟨m, hn, _⟩ := J.loc
  have hn : s6.heap.Ns C m := hn
  have nC : H6 C = none := J.free
  have nS : C ∉ frs X.stack := fun z => by
    obtain ⟨_, o, e, _⟩ := I0.stack.mem z
    have lt := Heap.lt_size e
    rw [hC] at lt
    exact absurd lt (Nat.lt_irrefl _)
  obtain ⟨a, B, H', cls, d, rfl, fl, hok, ub, na, os, ag, hE⟩ := c
  obtain ⟨o, es, ep, ho, hd⟩ := id hn
  have hn' : s'.heap.Ns C m := ⟨o, es, ep, fl.1 _ _ (ub.keep C o ho nC nS), hd⟩
  have c2 : CX X.prog X.w X.stack H6 s6 (fun cls d H' => H' C = none ∧ ∀ τ : L2.St, τ.length = X.N.length → W cls d τ H') (.ref a) s' := ⟨a, B, H', cls, d, rfl, fl, hok, ub, na, os, ag, ub.free C o ho nC, hE⟩
  obtain ⟨a', B', t, p', σ', H'', cls', d', ea, I', nb, up, sky, na', os', ag', w1, w2⟩ := XE.of_call (W := fun cls d _ H' => H' C = none ∧ ∀ τ : L2.St, τ.length = X.N.length → W cls d τ H') I (fun _ _ _ h => h) c2
  exact ⟨a', B', t, σ', H'', cls', d', ea, Inv.unpinned (pins := []) I', nb, up, sky, na', os', ag', w2 _ I'.len, w1, m, hn'⟩
theorem frames_but {C : Addr} {h h' B B' : Heap} (k : ∀ b, b ≠ C → h'.get? b = h.get? b) (n : ∀ b, B.get? b = none → B'.get? b = none) : ∀ {l : List Env}, C ∉ frs l → h.FunFrames B l → h'.FunFrames B' l
  | [], _, _ => True.intro
  | v :: l, hc, ⟨kd, ⟨L, o, e, a, b, c⟩, r⟩ => by
    have hL : L ≠ C := fun z => hc (by
      rw [← z]
      exact List.mem_filterMap.mpr ⟨v, List.mem_cons_self, e⟩)
    refine ⟨kd, ⟨L, o, e, n L a, (k L hL).trans b, c⟩, frames_but k n (fun z => hc ?_) r⟩
    obtain ⟨y, my, ey⟩ := List.mem_filterMap.mp z
    exact List.mem_filterMap.mpr ⟨y, List.mem_cons_of_mem _ my, ey⟩
/-- it is noted, the block's names are let go, it goes on in the def -/
theorem out_lands {W : WX} {C : Addr} {ce : Env} {acc : Value} {Good : Shared → Prop} {u : Value} {s' : Shared} (tk : Takes X W) (hst : X.stack = X.env :: X.outer) (hfr : X.env.frame = some X.env.locals) (hcf : ce.frame = X.env.frame) (hcl : ce.locals = C)
    (c0 : C ∉ frs X.stack) (c1 : C ≠ X.env.locals) (c2 : C ∈ X.ex ∨ X.s_0.heap.objs.size ≤ C) (c3 : ∀ x c, X.env.cells.lookup x = some c → c ≠ C) (c4 : ∀ p ∈ X.pn, p.1 ≠ C) (o : Out X W C u s') :
    notedBy (model X.prog X.w) X.A ce (fun e s2 => Post (model X.prog X.w) X.A X.xe Good acc ce (.error e) s2) u s' := by
  obtain ⟨a, B, t, σ, H, cls, d, rfl, I, nb, up, sky, na, os, ag, w, nC, m, hn⟩ := o
  have hA : X.A.frames = some (X.env :: X.outer) := by rw [I.ok.frames, hst]
  rw [hst] at sky
  show wpAny _ _ (noteFrame (.ref a) ce) _ _ s'
  rw [note_same hcf]
  refine sky_noted Zc.steady hA hfr sky fun h1 held up1 => ?_
  have hn1 : h1.Ns C m := up1.ns hn
  refine ⟨m, by rw [hcl]; exact hn1, fun h2 sb => ?_⟩
  rw [hcl] at sb
  obtain ⟨B', r1, r2⟩ := restrict B fun b => decide (b ≠ C)
  obtain ⟨G, g1, g2⟩ := restrict t.heap fun b => decide (b ≠ C)
  obtain ⟨f1, f2, f3, oe, vs, T, oT, ts, he, hz, hd, hv, hnT, hTe, hT, hdT, h3⟩ := held
  obtain ⟨oC, es, ep, hoC, hdC, _⟩ := id hn1
  have aC : a ≠ C := fun z => by
    rw [z, hoC] at he
    cases he
    rw [hdC] at hd
    cases hd
  have TC : T ≠ C := fun z => by
    rw [z, hoC] at hT
    cases hT
    rw [hdC] at hdT
    cases hdT
  have same : ∀ b, b ≠ C → h2.get? b = h1.get? b := sb.2
  have fromB : ∀ b o, B'.get? b = some o → B.get? b = some o ∧ b ≠ C := fun b o e => by
    by_cases z : b = C
    · rw [r2 b (by simp [z])] at e
      cases e
    · exact ⟨(r1 b (by simp [z])).symm.trans e, z⟩
  have noB : ∀ b, B.get? b = none → B'.get? b = none := fun b e => by
    cases q : B'.get? b with
    | none => rfl
    | some o => rw [(fromB b o q).1] at e; cases e
  rw [hst] at c0
  show wpAny _ _ (PySem.passOn _ (.ref a) ce : Sem Value) _ _ _
  unfold PySem.passOn
  refine wpAny_bind (wpAny_field (o := oe) (by show h2.get? a = _; rw [same a aC]; exact he) hd hv ?_)
  rw [if_neg (by simp)]
  refine wpAny_bind (HandSPX.setFlight_anyZ (base := B') (l := X.env :: X.outer) (Z := Zc cls d) (fun b o e => by
    obtain ⟨e1, n⟩ := fromB b o e
    show h2.get? b = _
    rw [same b n]
    exact f1 b o e1) (frames_but same noB c0 f3) ⟨oe, vs, T, oT, ts, (same a aC).trans he, hz, hd, hv, noB T hnT, hTe, (same T TC).trans hT, hdT, h3⟩ fun h4 k1 k2 k3 k4 => ?_)
  refine wpAny_throw (tk _ _ ⟨a, B', { t with heap := G }, [], σ, H, cls, d, rfl, ?_, fun b o e hb => ?_, fun b o e nf => ?_, .inr (.inr ⟨k1, noB a f2, ?_, ?_⟩), na, os, ag, w⟩)
  · exact I.turned (t' := t.toks) (it := C) (fun b o hb e => (g1 b (by simp [hb])).trans e) nC c1 c2 c3 fun p hp => c4 p (by simpa using hp)
  · have e : G.get? b = some o := e
    by_cases z : b = C
    · rw [g2 b (by simp [z])] at e
      cases e
    · have e1 := (g1 b (by simp [z])).symm.trans e
      rw [r1 b (by simp [z])]
      exact nb b o e1 hb
  · have e : G.get? b = some o := e
    by_cases z : b = C
    · rw [g2 b (by simp [z])] at e
      cases e
    · have e1 := (g1 b (by simp [z])).symm.trans e
      obtain ⟨s1, q1⟩ := up b o e1 nf
      obtain ⟨s2, q2⟩ := up1 b _ q1 nf
      obtain ⟨s3, q3⟩ := k4 b _ ((same b z).trans q2) nf
      exact ⟨s3, q3⟩
  · rw [hst]
    exact k2
  · rw [hcf, hfr] at k3
    exact k3
/-- y = [elt for target in iter if ..], elt's exceptions go on in the def -/
theorem ps_setLcR {W : WX} {iy : Nat} {y : Str} {py spos : Pos} {elt tg iter : Expr} {ifs : List Expr} {scope : Scope} {own : List (Str × Nat)} {pos : Pos} {wi : TI} {g : TG} {tt : TT} {te : TE} (hc : X.calm = true) (tk : Takes X W) (hst : X.stack = X.env :: X.outer) (hfr : X.env.frame = some X.env.locals)
    (nd : X.N.Nodup) (hy : X.N[iy]? = some y) (hyl : X.env.scope.names.lookup y = some .local) (hsw : swapsWith (.ListComp elt [⟨tg, iter, ifs, 0⟩] scope pos) (some (.Name y py)) spos.line X.env = pure true) (hi : PI X tg iter wi) (ok : BlkOk X.N X.env.scope scope own) (hg : ∀ (s : Shared) (H : Hp) (C : Addr) (cl : List (Str × Addr)) (fp : List Addr), PG (X.blk s H scope (compEnvC scope cl C X.env) fp) tg g)
    (ht : ∀ (s : Shared) (H : Hp) (C : Addr) (cl : List (Str × Addr)) (fp : List Addr), PTs (X.blk s H scope (compEnvC scope cl C X.env) fp) ifs tt)
    (he : ∀ (s : Shared) (H : Hp) (C : Addr) (cl : List (Str × Addr)) (fp : List Addr) (pn : List (Addr × Obj)), Began X s H C fp → PE ((X.blk s H scope (compEnvC scope cl C X.env) fp).tr pn (Out X W C)) elt te)
    (hs : ∀ x, foldedSetIterable iter X.env x = pure x := by intro _; rfl) : PS X (.Assign [.Name y py] (.ListComp elt [⟨tg, iter, ifs, 0⟩] scope pos) spos) (tAsg (tLc wi g tt te (own.map (·.2))) (gName iy)) := by
  refine ⟨fun pins s σ H D0 I h => ?_⟩
  rw [exec_Assign_Name_used _ _ _ _ hsw]
  refine wpAny_bind (wpAny_standAt (wpAny_bind ?_))
  show wpAny _ X.A (do let _ ← comprehension (.ListComp elt [⟨tg, iter, ifs, 0⟩] scope pos) scope X.env (firstIterPos [⟨tg, iter, ifs, 0⟩] pos) (newList []) false (eval iter X.env) (some (assign (.Name y py) X.env))) _ _ s
  refine wpAny_bind (wpAny_mono (Q := fun _ s' => SP X pins D0 .next s') ?_ (fun _ s' q => wpAny_pure (wpAny_pure q)) fun _ _ z => z)
  have h : tLc wi g tt te (own.map (·.2)) σ H (fun x H1 => gName iy x σ H1 D0.nx) := h
  have clo : ∀ y ∈ scope.names, y.2 = .free → ∃ c, X.env.cells.lookup y.1 = some c := fun y hy e => (ok.free y hy e).elim (fun k => I.ok.has _ (.inl k)) fun k => I.ok.has _ (.inr k)
  refine comp_in (Q := fun _ s' => SP X pins D0 .next s') rfl hs (closure_ok clo) ok.kind (fun y hy e => (ok.uniq y hy).trans (congrArg some e)) (thn (hi.run pins s σ H _ I h) fun xv s1 hx => thn hx fun iv s2 hit => ?_)
  obtain ⟨it, fp, tn, J, H2, ev, I2, T, st2, fpk, q⟩ := hit
  subst ev
  refine wpAny_newObj_type (newEnv_comp ?_) (by show 0 ≤ sizeLine; decide)
  have freshD : H2 s2.heap.objs.size = none := I2.hok.fresh (Nat.le_refl _)
  obtain ⟨W0, ⟨m0, w0⟩, turn⟩ := q _ freshD
  have I3 : Inv X pins σ (upd H2 s2.heap.objs.size (.lst [])) { s2 with heap := s2.heap.push { cls := .type "list", data := .seq ([] : List Value).toArray } } :=
    I2.laid (t' := s2.toks) (fun b o e => Heap.get?_push_of_some _ e) (Nat.le_refl _) ⟨Nat.zero_le _, [], 0, .nil, Heap.get?_push_size _ rfl⟩
  generalize hD : s2.heap.objs.size = D at freshD w0 turn I3 ⊢
  generalize hs3 : ({ s2 with heap := s2.heap.push { cls := .type "list", data := .seq ([] : List Value).toArray } } : Shared) = s3 at I3 ⊢
  have hp3 : s3.heap = s2.heap.push { cls := .type "list", data := .seq ([] : List Value).toArray } := hs3 ▸ rfl
  have below : ∀ b ∈ fp, b < s2.heap.objs.size := fun b hb => let ⟨_, e, _⟩ := T.obj _ _ st2 b hb; Heap.lt_size e
  have fits : ∀ b ∈ fp, FpOk X pins (upd H2 D (.lst [])) b ∧ b < s3.heap.objs.size := fun b hb => by
    have lt := below b hb
    have z := fpk b hb
    refine ⟨⟨?_, z.2⟩, by rw [hp3, Heap.size_push]; exact Nat.lt_succ_of_lt lt⟩
    rw [upd_ne (fun e => by rw [e, ← hD] at lt; exact absurd lt (Nat.lt_irrefl _))]
    exact z.1
  have st3 : tn 0 s3.heap := T.keep _ _ _ st2 fun b _ o e => hp3 ▸ Heap.get?_push_of_some _ e
  have I4 := block_start I3 ok nd fits
  generalize hH3 : upd H2 D (.lst []) = H3 at I3 I4 fits w0
  have bg : Began X s3 H3 s3.heap.objs.size fp := ⟨rfl, pins, σ, I3, fun b hb => (fits b hb).1⟩
  generalize hcl : cellsFrom (s3.heap.objs.size + 1) scope.names (cloFrom X.env.cells scope.names []) = cl at I4
  generalize hC : s3.heap.objs.size = C at I4 bg
  have pg := hg s3 H3 C cl fp
  have pt := ht s3 H3 C cl fp
  have pe := fun pn => he s3 H3 C cl fp pn bg
  show codeAny _ _ (.compStart _ 0 (.ref it) (.ref D) (compEnvC scope cl C X.env)) (Post (model X.prog X.w) X.A X.xe (Used (model X.prog X.w) X.A X.xe (assign (.Name y py) X.env) (fun _ s' => SP X pins D0 .next s') (.ref D) (compEnvC scope cl C X.env)) (.ref D) (compEnvC scope cl C X.env)) _
  have c0 : C ∉ frs X.stack := fun z => by
    obtain ⟨_, o, e, _⟩ := I3.stack.mem z
    have lt := Heap.lt_size e
    rw [hC] at lt
    exact absurd lt (Nat.lt_irrefl _)
  have c5 : ∀ {H' : Hp}, H' C = none → FpOk X pins H' C := fun z => I3.fpOk (Nat.le_of_eq hC) z
  have lands : ∀ {u : Value} {t : Shared}, Out X W C u t → notedBy (model X.prog X.w) X.A (compEnvC scope cl C X.env) (fun e t2 => Post (model X.prog X.w) X.A X.xe (Used (model X.prog X.w) X.A X.xe (assign (.Name y py) X.env) (fun _ s' => SP X pins D0 .next s') (.ref D) (compEnvC scope cl C X.env)) (.ref D) (compEnvC scope cl C X.env) (.error e) t2) u t := fun {u t} o => by
    have z := c5 (H' := fun _ => none) rfl
    exact out_lands tk hst hfr rfl rfl c0 z.2.1 z.2.2.2.1 z.2.2.2.2.1 (fun p hp => z.2.2.2.2.2 p (List.mem_append_left _ hp)) o
  generalize hs4 : ({ s3 with heap := pushCells (s3.heap.push { cls := .type "dict", data := .dict #[] }) scope.names } : Shared) = s4 at I4 ⊢
  have st4 : tn 0 s4.heap := T.keep _ _ _ st3 fun b _ o e => hs4 ▸ pushCells_keeps _ _ _ _ (Heap.get?_push_of_some _ e)
  have there : ∀ {σ' : L2.St} {H' : Hp} {t : Shared}, Inv (X.blk s3 H3 scope (compEnvC scope cl C X.env) fp) [] σ' H' t → (∀ b ∈ fp, H' b = none) → ∀ b ∈ fp, FpOk (X.blk s3 H3 scope (compEnvC scope cl C X.env) fp) [] H' b := fun K hn b hb =>
    ⟨hn b hb, (K.ok.exf b hb).1, K.ok.exfs b hb, .inl hb, fun x c e => (K.ok.exf b hb).2 x c e, fun p hp => absurd hp (by show p ∉ ([] : List (Addr × Obj)) ++ []; simp)⟩
  have run : codeAny (model X.prog X.w) X.A (.compLoop (.ListComp elt [⟨tg, iter, ifs, 0⟩] scope pos) 0 (.ref it) (.ref D) (compEnvC scope cl C X.env)) (Post (model X.prog X.w) X.A X.xe (Used (model X.prog X.w) X.A X.xe (assign (.Name y py) X.env) (fun _ s' => SP X pins D0 .next s') (.ref D) (compEnvC scope cl C X.env)) (.ref D) (compEnvC scope cl C X.env)) s4 := by
    refine compLoop_any (fun n t => ∃ i H', Inv (X.blk s3 H3 scope (compEnvC scope cl C X.env) fp) [] (wipe σ (own.map (·.2))) H' t ∧ tn i t.heap ∧ (∀ b ∈ fp, H' b = none) ∧ W0 i n H') ?_ m0 ⟨0, H3, I4, st4, fun b hb => (fits b hb).1.1, w0⟩
    rintro n s5 ⟨i, H5, I5, st5, n5, w5⟩
    rcases turn i n H5 w5 with ⟨stop, qq⟩ | ⟨go, Nx, hNx, step⟩
    · have td := T.done (X.blk s3 H3 scope (compEnvC scope cl C X.env) fp) rfl rfl rfl hc i [] s5 _ H5 (fun _ _ => False) I5 (there I5 n5) st5 stop
      refine thnF td fun r s6 ⟨er, I6⟩ => ?_
      subst er
      have I7 : Inv X pins σ H5 s6 := I3.call' (ch := fp) I6.os I6.base I6.hok I6.bare fun b hb => let z := (fits b hb).1; ⟨z.2.2.2.1, z.2.1, z.2.2.2.2.1, z.2.2.2.2.2⟩
      obtain ⟨m, hn, _⟩ := I6.loc
      have z := c5 (show H5 C = none from I6.free)
      show wpAny _ _ (assign (.Name y py) X.env (.ref D)) _ _ _
      refine wpAny_assign_Name (store_ok2 (v := V.ref D) I7 nd hy (.inl hyl) rfl (fun s2 I8 ⟨a, sb, ha⟩ => ?_) (.inr hyl))
      have ne : C ≠ a := by
        rcases ha with e | e
        · rw [e]; exact z.2.1
        · exact fun q => z.2.2.2.2.1 y a e q.symm
      refine ⟨m, hn.sameBut sb ne, fun h3 sb3 => ⟨_, H5, I8.turned (t' := s2.toks) (fun b o hb e => (sb3.2 b hb).trans e) z.1 z.2.1 z.2.2.2.1 z.2.2.2.2.1 z.2.2.2.2.2, qq⟩⟩
    · have ti := T.item (X.blk s3 H3 scope (compEnvC scope cl C X.env) fp) rfl rfl rfl hc i [] s5 _ H5 (fun _ _ => False) I5 (there I5 n5) st5 go
      refine thnF ti fun r s6 ⟨u, er, more⟩ => ?_
      subst er
      refine thnF more fun _ s7 ⟨x, H7, I7, rx, y7, st7, n7⟩ => ?_
      have J7 := I7.pinned (there I7 n7) (T.obj _ _ st7)
      refine thnF (pg.run _ s7 _ H7 x u _ J7 rx (step x H7 y7)) fun _ s8 ⟨σ8, H8, J8, ew, q8⟩ => ?_
      refine thnF (pt.run _ s8 σ8 H8 _ J8 q8) fun b s9 ⟨H9, J9, q9⟩ => ?_
      have next : ∀ {t : Shared} {H' : Hp}, Inv (X.blk s3 H3 scope (compEnvC scope cl C X.env) fp) ([] ++ pinsAt fp s7.heap) σ8 H' t → Nx H' → ∃ m, m < n ∧ ∃ i H', Inv (X.blk s3 H3 scope (compEnvC scope cl C X.env) fp) [] (wipe σ (own.map (·.2))) H' t ∧ tn i t.heap ∧ (∀ b ∈ fp, H' b = none) ∧ W0 i m H' := fun {t H'} K nx => by
        obtain ⟨m', lt, w'⟩ := hNx H' nx
        have still : ∀ b ∈ fp, ∀ o, s7.heap.get? b = some o → t.heap.get? b = some o ∧ H' b = none := fun b hb o e =>
          let z := K.pin (b, o) (List.mem_append_right _ (List.mem_append_right _ (mem_pinsAt hb e)))
          ⟨z.1, z.2.1⟩
        have el : (wipe σ (own.map (·.2))).length = σ8.length := (congrArg List.length ew).symm.trans (wipe_length ..)
        refine ⟨m', lt, i + 1, H', (Inv.unpinned (pins := []) K).weak el (fun j v e => ?_), T.keep _ _ _ st7 fun b hb o e => (still b hb o e).1, fun b hb => ?_, w'⟩
        · rw [← ew] at e
          exact (wipe_some e).1
        · obtain ⟨o, e, _⟩ := T.obj _ _ st7 b hb
          exact (still b hb o e).2
      cases b with
      | false =>
        simp only [Bool.false_eq_true, if_false] at q9 ⊢
        exact next J9 q9
      | true =>
        simp only [if_true] at q9 ⊢
        refine wpAny_mono ((pe _).run _ s9 σ8 H9 _ (J9.toTry (Out X W C)) q9) (fun z s10 ⟨y, H10, J10, ry, acc, hacc, lacc, nx⟩ => ?_) fun e t o => lands o
        exact app_ok (X := X.blk s3 H3 scope (compEnvC scope cl C X.env) fp) (J10.ofTry J9.ok) hacc lacc ry fun s11 J11 => next J11 nx
  exact codeAny_compStart_list run (T.self X.A 0 _ _ _ st4 run)
end
end Lr2

/-! Two statements, their reading told by an equation. -/
namespace St2
open PySem PySem.Spec PyProof.Rows L2
theorem pss_two {X : Cx} {a b : Stmt} {t u v : TS} (h : PS X a t) (g : PS X b u) (e : v = tSeq t u) : PSs X [a, b] v := by
  subst e
  exact pss_cons h (pss_one g)
end St2

namespace K10
open PySem L2
def top (i : Nat) : Stmt := PySem.Challenge.pw_wheelchorus_k10_town_texts_refused.main.body.getD i (.Pass ⟨0, 0, 0, 0⟩)
abbrev s_is_whole : Stmt := top 6
abbrev s_is_whole_within : Stmt := top 7
abbrev s_is_sequence : Stmt := top 8
abbrev s_is_digit : Stmt := top 9
abbrev s_is_number : Stmt := top 14
abbrev s_is_sort : Stmt := top 20
abbrev s_has_double : Stmt := top 21
abbrev s_are_loops : Stmt := top 23
abbrev s_check_boxes : Stmt := top 24
abbrev s_check_town : Stmt := top 22
abbrev s_init : Stmt := inClass (top 19) 2
abbrev s_eq : Stmt := inClass (top 19) 3
abbrev s_first_row : Stmt := top 31
abbrev s_is_loop_too_much : Stmt := top 32
abbrev s_has_double_up_to : Stmt := top 33
abbrev s_wrong_row : Stmt := top 30
abbrev s_read_head : Stmt := top 28
abbrev s_read_loop : Stmt := top 29
abbrev s_read_town : Stmt := top 27
abbrev s_bag : Stmt := top 35
abbrev s_draw : Stmt := top 36
abbrev s_number : Stmt := top 37
abbrev s_numbers : Stmt := top 38
abbrev s_pairs : Stmt := top 39
abbrev s_loops : Stmt := top 40
abbrev s_box_fault : Stmt := top 41
abbrev s_head : Stmt := top 42
abbrev s_row_fault : Stmt := top 43
abbrev s_pieces : Stmt := top 44
abbrev s_lis_number : Stmt := top 45
abbrev s_first : Stmt := top 46
abbrev s_due : Stmt := top 47
abbrev s_read : Stmt := top 48
abbrev s_law : Stmt := top 49
abbrev nm_is_whole : List Str := ["thing"]
theorem sc_is_whole : FnScope nm_is_whole ["thing"] (defScope s_is_whole) :=
  ⟨rfl, rfl, rfl, by decide +kernel, rfl, by decide +kernel, by decide +kernel⟩
abbrev nm_is_whole_within : List Str := ["thing", "low", "high"]
theorem sc_is_whole_within : FnScope nm_is_whole_within ["thing", "low", "high"] (defScope s_is_whole_within) :=
  ⟨rfl, rfl, rfl, by decide +kernel, rfl, by decide +kernel, by decide +kernel⟩
abbrev nm_is_sequence : List Str := ["thing"]
theorem sc_is_sequence : FnScope nm_is_sequence ["thing"] (defScope s_is_sequence) :=
  ⟨rfl, rfl, rfl, by decide +kernel, rfl, by decide +kernel, by decide +kernel⟩
abbrev nm_is_digit : List Str := ["word"]
theorem sc_is_digit : FnScope nm_is_digit ["word"] (defScope s_is_digit) :=
  ⟨rfl, rfl, rfl, by decide +kernel, rfl, by decide +kernel, by decide +kernel⟩
abbrev nm_is_number : List Str := ["thing", "letter"]
theorem sc_is_number : FnScope nm_is_number ["thing"] (defScope s_is_number) :=
  ⟨rfl, rfl, rfl, by decide +kernel, rfl, by decide +kernel, by decide +kernel⟩
abbrev nm_is_sort : List Str := ["thing"]
theorem sc_is_sort : FnScope nm_is_sort ["thing"] (defScope s_is_sort) :=
  ⟨rfl, rfl, rfl, by decide +kernel, rfl, by decide +kernel, by decide +kernel⟩
abbrev nm_has_double : List Str := ["boxes", "number", "_"]
theorem sc_has_double : FnScope nm_has_double ["boxes"] (defScope s_has_double) :=
  ⟨rfl, rfl, rfl, by decide +kernel, rfl, by decide +kernel, by decide +kernel⟩
abbrev nm_are_loops : List Str := ["thing", "loop"]
theorem sc_are_loops : FnScope nm_are_loops ["thing"] (defScope s_are_loops) :=
  ⟨rfl, rfl, rfl, by decide +kernel, rfl, by decide +kernel, by decide +kernel⟩
abbrev nm_check_boxes : List Str := ["boxes", "box", "number", "_", "sort"]
theorem sc_check_boxes : FnScope nm_check_boxes ["boxes"] (defScope s_check_boxes) :=
  ⟨rfl, rfl, rfl, by decide +kernel, rfl, by decide +kernel, by decide +kernel⟩
abbrev nm_check_town : List Str := ["loops", "rounds", "hear", "loop", "box"]
theorem sc_check_town : FnScope nm_check_town ["loops", "rounds", "hear"] (defScope s_check_town) :=
  ⟨rfl, rfl, rfl, by decide +kernel, rfl, by decide +kernel, by decide +kernel⟩
abbrev nm_init : List Str := ["self", "loops", "rounds", "hear", "loop", "box", "number", "_"]
theorem sc_init : FnScope nm_init ["self", "loops", "rounds", "hear"] (defScope s_init) :=
  ⟨rfl, rfl, rfl, by decide +kernel, rfl, by decide +kernel, by decide +kernel⟩
abbrev nm_eq : List Str := ["self", "other"]
theorem sc_eq : FnScope nm_eq ["self", "other"] (defScope s_eq) :=
  ⟨rfl, rfl, rfl, by decide +kernel, rfl, by decide +kernel, by decide +kernel⟩
abbrev nm_first_row : List Str := ["faults", "index", "is_fault"]
theorem sc_first_row : FnScope nm_first_row ["faults"] (defScope s_first_row) :=
  ⟨rfl, rfl, rfl, by decide +kernel, rfl, by decide +kernel, by decide +kernel⟩
abbrev nm_is_loop_too_much : List Str := ["index", "loop"]
theorem sc_is_loop_too_much : FnScope nm_is_loop_too_much ["index", "loop"] (defScope s_is_loop_too_much) :=
  ⟨rfl, rfl, rfl, by decide +kernel, rfl, by decide +kernel, by decide +kernel⟩
abbrev nm_has_double_up_to : List Str := ["loops", "index", "loop", "box"]
theorem sc_has_double_up_to : FnScope nm_has_double_up_to ["loops", "index"] (defScope s_has_double_up_to) :=
  ⟨rfl, rfl, rfl, by decide +kernel, rfl, by decide +kernel, by decide +kernel⟩
abbrev nm_wrong_row : List Str := ["what", "loops", "index", "loop", "number", "_", "sort"]
theorem sc_wrong_row : FnScope nm_wrong_row ["what", "loops"] (defScope s_wrong_row) :=
  ⟨rfl, rfl, rfl, by decide +kernel, rfl, by decide +kernel, by decide +kernel⟩
abbrev nm_read_head : List Str := ["row", "words"]
theorem sc_read_head : FnScope nm_read_head ["row"] (defScope s_read_head) :=
  ⟨rfl, rfl, rfl, by decide +kernel, rfl, by decide +kernel, by decide +kernel⟩
abbrev nm_read_loop : List Str := ["index", "row", "boxes", "piece", "words"]
theorem sc_read_loop : FnScope nm_read_loop ["index", "row"] (defScope s_read_loop) :=
  ⟨rfl, rfl, rfl, by decide +kernel, rfl, by decide +kernel, by decide +kernel⟩
abbrev nm_read_town : List Str := ["text", "rows", "rounds", "hear", "loops", "index", "row", "wrong"]
theorem sc_read_town : FnScope nm_read_town ["text"] (defScope s_read_town) :=
  ⟨rfl, rfl, rfl, by decide +kernel, rfl, by decide +kernel, by decide +kernel⟩
abbrev nm_bag : List Str := ["_law_script", "_law_cells", "_law_cell"]
theorem sc_bag : FnScope nm_bag ["_law_script"] (defScope s_bag) :=
  ⟨rfl, rfl, rfl, by decide +kernel, rfl, by decide +kernel, by decide +kernel⟩
abbrev nm_draw : List Str := ["_law_bag_here", "_law_limit", "_law_digit"]
theorem sc_draw : FnScope nm_draw ["_law_bag_here", "_law_limit"] (defScope s_draw) :=
  ⟨rfl, rfl, rfl, by decide +kernel, rfl, by decide +kernel, by decide +kernel⟩
abbrev nm_number : List Str := ["_law_bag_here", "_law_many", "_law_way", "_law_top", "_law_word", "_law_left", "_law_k", "_law_digit"]
theorem sc_number : FnScope nm_number ["_law_bag_here"] (defScope s_number) :=
  ⟨rfl, rfl, rfl, by decide +kernel, rfl, by decide +kernel, by decide +kernel⟩
abbrev nm_numbers : List Str := ["_law_bag_here", "_law_many", "_law_found", "_law_spare", "_law_k", "_law_number_here", "_law_free", "_law_one"]
theorem sc_numbers : FnScope nm_numbers ["_law_bag_here", "_law_many"] (defScope s_numbers) :=
  ⟨rfl, rfl, rfl, by decide +kernel, rfl, by decide +kernel, by decide +kernel⟩
abbrev nm_pairs : List Str := ["_law_bag_here", "_law_numbers_here", "_law_number_here"]
theorem sc_pairs : FnScope nm_pairs ["_law_bag_here", "_law_numbers_here"] (defScope s_pairs) :=
  ⟨rfl, rfl, rfl, by decide +kernel, rfl, by decide +kernel, by decide +kernel⟩
abbrev nm_loops : List Str := ["_law_bag_here", "_law_sizes", "_law_k", "_law_boxes", "_law_loops_here", "_law_size"]
theorem sc_loops : FnScope nm_loops ["_law_bag_here"] (defScope s_loops) :=
  ⟨rfl, rfl, rfl, by decide +kernel, rfl, by decide +kernel, by decide +kernel⟩
abbrev nm_box_fault : List Str := ["_law_bag_here", "_law_loops_here", "_law_way", "_law_row", "_law_box", "_law_other", "_law_twin"]
theorem sc_box_fault : FnScope nm_box_fault ["_law_bag_here", "_law_loops_here"] (defScope s_box_fault) :=
  ⟨rfl, rfl, rfl, by decide +kernel, rfl, by decide +kernel, by decide +kernel⟩
abbrev nm_head : List Str := ["_law_bag_here", "_law_words", "_law_way"]
theorem sc_head : FnScope nm_head ["_law_bag_here"] (defScope s_head) :=
  ⟨rfl, rfl, rfl, by decide +kernel, rfl, by decide +kernel, by decide +kernel⟩
abbrev nm_row_fault : List Str := ["_law_bag_here", "_law_rows", "_law_way", "_law_at", "_law_row", "_law_spot"]
theorem sc_row_fault : FnScope nm_row_fault ["_law_bag_here", "_law_rows"] (defScope s_row_fault) :=
  ⟨rfl, rfl, rfl, by decide +kernel, rfl, by decide +kernel, by decide +kernel⟩
abbrev nm_pieces : List Str := ["_law_row", "_law_boxes", "_law_piece", "_law_spot"]
theorem sc_pieces : FnScope nm_pieces ["_law_row"] (defScope s_pieces) :=
  ⟨rfl, rfl, rfl, by decide +kernel, rfl, by decide +kernel, by decide +kernel⟩
abbrev nm_lis_number : List Str := ["_law_thing", "_law_sign"]
theorem sc_lis_number : FnScope nm_lis_number ["_law_thing"] (defScope s_lis_number) :=
  ⟨rfl, rfl, rfl, by decide +kernel, rfl, by decide +kernel, by decide +kernel⟩
abbrev nm_first : List Str := ["_law_loops_here", "_law_large", "_law_k", "_law_box", "_law_names"]
theorem sc_first : FnScope nm_first ["_law_loops_here"] (defScope s_first) :=
  ⟨rfl, rfl, rfl, by decide +kernel, rfl, by decide +kernel, by decide +kernel⟩
abbrev nm_due : List Str := ["_law_text", "_law_rows", "_law_words", "_law_word", "_law_loops_here", "_law_at", "_law_boxes", "_law_wrong", "_law_rules"]
theorem sc_due : FnScope nm_due ["_law_text"] (defScope s_due) :=
  ⟨rfl, rfl, rfl, by decide +kernel, rfl, by decide +kernel, by decide +kernel⟩
abbrev nm_read : List Str := ["_law_text", "_law_town", "e"]
theorem sc_read : FnScope nm_read ["_law_text"] (defScope s_read) :=
  ⟨rfl, rfl, rfl, by decide +kernel, rfl, by decide +kernel, by decide +kernel⟩
abbrev nm_law : List Str := ["_law_script", "_law_bag_here", "_law_loops_here", "_law_k", "_law_rows", "_law_loop", "_law_box", "_law_text", "_law_due_here", "_law_told", "_law_rules"]
theorem sc_law : FnScope nm_law ["_law_script"] (defScope s_law) :=
  ⟨rfl, rfl, rfl, by decide +kernel, rfl, by decide +kernel, by decide +kernel⟩
set_option genInjectivity false in
set_option genSizeOf false in
set_option genSizeOfSpec false in
structure Txt (K : PySem.W.Frag) (mg : Str → Option Value) where
  C : Addr
  isi : SlX.SIsi K C
  kS : PySem.W.kitOne K (.ref C) (.ref C) = some true
  sfC : PySem.W.notFirst K C (.ref C) = true
  gC : mg "Town" = some (.ref C)
  clC : Cls K C
  mc : Value
  rd : ClX.CRead K C mc
  uP : Value
  uS : Value
  vP : ClX.CVal K C mc "PLAIN" (.str "plain") uP
  vS : ClX.CVal K C mc "SHY" (.str "shy") uS
  nL : NoAttr K C "loops"
  nR : NoAttr K C "rounds"
  nH : NoAttr K C "hear"
  nN : NoAttr K C "numbers"
  CB : Addr
  fB : Addr
  lowB : PySem.LowB.LowTxt K mg CB fB
  CR : Addr
  fR : Addr
  lowR : PySem.LowR.LowTxt K mg CR fR
  Wc : Addr
  gWc : mg "WheelError" = some (.ref Wc)
  kRW : PySem.W.kitOne K (.ref CR) (.ref Wc) = some true
  kRB : PySem.W.kitOne K (.ref CR) (.ref CB) = some false
  xcR : ExcC K CR
  cliR : (PySem.W.clsIn K CR).isSome = true
  a_is_whole : Addr
  d_is_whole : FuncData
  F_is_whole : Fun K "is_whole" "is_whole" s_is_whole a_is_whole d_is_whole
  b_is_whole : Binds K d_is_whole ["thing"] []
  g_is_whole : mg "is_whole" = some (.ref a_is_whole)
  a_is_whole_within : Addr
  d_is_whole_within : FuncData
  F_is_whole_within : Fun K "is_whole_within" "is_whole_within" s_is_whole_within a_is_whole_within d_is_whole_within
  b_is_whole_within : Binds K d_is_whole_within ["thing", "low", "high"] []
  g_is_whole_within : mg "is_whole_within" = some (.ref a_is_whole_within)
  a_is_sequence : Addr
  d_is_sequence : FuncData
  F_is_sequence : Fun K "is_sequence" "is_sequence" s_is_sequence a_is_sequence d_is_sequence
  b_is_sequence : Binds K d_is_sequence ["thing"] []
  g_is_sequence : mg "is_sequence" = some (.ref a_is_sequence)
  a_is_digit : Addr
  d_is_digit : FuncData
  F_is_digit : Fun K "is_digit" "is_digit" s_is_digit a_is_digit d_is_digit
  b_is_digit : Binds K d_is_digit ["word"] []
  g_is_digit : mg "is_digit" = some (.ref a_is_digit)
  a_is_number : Addr
  d_is_number : FuncData
  F_is_number : Fun K "is_number" "is_number" s_is_number a_is_number d_is_number
  b_is_number : Binds K d_is_number ["thing"] []
  g_is_number : mg "is_number" = some (.ref a_is_number)
  a_is_sort : Addr
  d_is_sort : FuncData
  F_is_sort : Fun K "is_sort" "is_sort" s_is_sort a_is_sort d_is_sort
  b_is_sort : Binds K d_is_sort ["thing"] []
  g_is_sort : mg "is_sort" = some (.ref a_is_sort)
  a_has_double : Addr
  d_has_double : FuncData
  F_has_double : Fun K "has_double" "has_double" s_has_double a_has_double d_has_double
  b_has_double : Binds K d_has_double ["boxes"] []
  g_has_double : mg "has_double" = some (.ref a_has_double)
  a_are_loops : Addr
  d_are_loops : FuncData
  F_are_loops : Fun K "are_loops" "are_loops" s_are_loops a_are_loops d_are_loops
  b_are_loops : Binds K d_are_loops ["thing"] []
  g_are_loops : mg "are_loops" = some (.ref a_are_loops)
  a_check_boxes : Addr
  d_check_boxes : FuncData
  F_check_boxes : Fun K "check_boxes" "check_boxes" s_check_boxes a_check_boxes d_check_boxes
  b_check_boxes : Binds K d_check_boxes ["boxes"] []
  g_check_boxes : mg "check_boxes" = some (.ref a_check_boxes)
  a_check_town : Addr
  d_check_town : FuncData
  F_check_town : Fun K "check_town" "check_town" s_check_town a_check_town d_check_town
  b_check_town : Binds K d_check_town ["loops", "rounds", "hear"] []
  g_check_town : mg "check_town" = some (.ref a_check_town)
  a_init : Addr
  d_init : FuncData
  F_init : FunD K "__init__" "Town.__init__" (defArgs s_init) (defBody s_init) (defScope s_init) [] [("hear", V.int 1)] a_init d_init
  mk_init : Mk K C a_init
  a_eq : Addr
  d_eq : FuncData
  F_eq : Fun K "__eq__" "Town.__eq__" s_eq a_eq d_eq
  b_eq : Binds K d_eq ["self", "other"] []
  m_eq : Meth K C "__eq__" a_eq
  a_first_row : Addr
  d_first_row : FuncData
  F_first_row : Fun K "first_row" "first_row" s_first_row a_first_row d_first_row
  b_first_row : Binds K d_first_row ["faults"] []
  g_first_row : mg "first_row" = some (.ref a_first_row)
  a_is_loop_too_much : Addr
  d_is_loop_too_much : FuncData
  F_is_loop_too_much : Fun K "is_loop_too_much" "is_loop_too_much" s_is_loop_too_much a_is_loop_too_much d_is_loop_too_much
  b_is_loop_too_much : Binds K d_is_loop_too_much ["index", "loop"] []
  g_is_loop_too_much : mg "is_loop_too_much" = some (.ref a_is_loop_too_much)
  a_has_double_up_to : Addr
  d_has_double_up_to : FuncData
  F_has_double_up_to : Fun K "has_double_up_to" "has_double_up_to" s_has_double_up_to a_has_double_up_to d_has_double_up_to
  b_has_double_up_to : Binds K d_has_double_up_to ["loops", "index"] []
  g_has_double_up_to : mg "has_double_up_to" = some (.ref a_has_double_up_to)
  a_wrong_row : Addr
  d_wrong_row : FuncData
  F_wrong_row : Fun K "wrong_row" "wrong_row" s_wrong_row a_wrong_row d_wrong_row
  b_wrong_row : Binds K d_wrong_row ["what", "loops"] []
  g_wrong_row : mg "wrong_row" = some (.ref a_wrong_row)
  a_read_head : Addr
  d_read_head : FuncData
  F_read_head : Fun K "read_head" "read_head" s_read_head a_read_head d_read_head
  b_read_head : Binds K d_read_head ["row"] []
  g_read_head : mg "read_head" = some (.ref a_read_head)
  a_read_loop : Addr
  d_read_loop : FuncData
  F_read_loop : Fun K "read_loop" "read_loop" s_read_loop a_read_loop d_read_loop
  b_read_loop : Binds K d_read_loop ["index", "row"] []
  g_read_loop : mg "read_loop" = some (.ref a_read_loop)
  a_read_town : Addr
  d_read_town : FuncData
  F_read_town : Fun K "read_town" "read_town" s_read_town a_read_town d_read_town
  b_read_town : Binds K d_read_town ["text"] []
  g_read_town : mg "read_town" = some (.ref a_read_town)
  a_bag : Addr
  d_bag : FuncData
  F_bag : Fun K "_law_bag" "_law_bag" s_bag a_bag d_bag
  b_bag : Binds K d_bag ["_law_script"] []
  g_bag : mg "_law_bag" = some (.ref a_bag)
  a_draw : Addr
  d_draw : FuncData
  F_draw : Fun K "_law_draw" "_law_draw" s_draw a_draw d_draw
  b_draw : Binds K d_draw ["_law_bag_here", "_law_limit"] []
  g_draw : mg "_law_draw" = some (.ref a_draw)
  a_number : Addr
  d_number : FuncData
  F_number : Fun K "_law_number" "_law_number" s_number a_number d_number
  b_number : Binds K d_number ["_law_bag_here"] []
  g_number : mg "_law_number" = some (.ref a_number)
  a_numbers : Addr
  d_numbers : FuncData
  F_numbers : Fun K "_law_numbers" "_law_numbers" s_numbers a_numbers d_numbers
  b_numbers : Binds K d_numbers ["_law_bag_here", "_law_many"] []
  g_numbers : mg "_law_numbers" = some (.ref a_numbers)
  a_pairs : Addr
  d_pairs : FuncData
  F_pairs : Fun K "_law_pairs" "_law_pairs" s_pairs a_pairs d_pairs
  b_pairs : Binds K d_pairs ["_law_bag_here", "_law_numbers_here"] []
  g_pairs : mg "_law_pairs" = some (.ref a_pairs)
  a_loops : Addr
  d_loops : FuncData
  F_loops : Fun K "_law_loops" "_law_loops" s_loops a_loops d_loops
  b_loops : Binds K d_loops ["_law_bag_here"] []
  g_loops : mg "_law_loops" = some (.ref a_loops)
  a_box_fault : Addr
  d_box_fault : FuncData
  F_box_fault : Fun K "_law_box_fault" "_law_box_fault" s_box_fault a_box_fault d_box_fault
  b_box_fault : Binds K d_box_fault ["_law_bag_here", "_law_loops_here"] []
  g_box_fault : mg "_law_box_fault" = some (.ref a_box_fault)
  a_head : Addr
  d_head : FuncData
  F_head : Fun K "_law_head" "_law_head" s_head a_head d_head
  b_head : Binds K d_head ["_law_bag_here"] []
  g_head : mg "_law_head" = some (.ref a_head)
  a_row_fault : Addr
  d_row_fault : FuncData
  F_row_fault : Fun K "_law_row_fault" "_law_row_fault" s_row_fault a_row_fault d_row_fault
  b_row_fault : Binds K d_row_fault ["_law_bag_here", "_law_rows"] []
  g_row_fault : mg "_law_row_fault" = some (.ref a_row_fault)
  a_pieces : Addr
  d_pieces : FuncData
  F_pieces : Fun K "_law_pieces" "_law_pieces" s_pieces a_pieces d_pieces
  b_pieces : Binds K d_pieces ["_law_row"] []
  g_pieces : mg "_law_pieces" = some (.ref a_pieces)
  a_lis_number : Addr
  d_lis_number : FuncData
  F_lis_number : Fun K "_law_is_number" "_law_is_number" s_lis_number a_lis_number d_lis_number
  b_lis_number : Binds K d_lis_number ["_law_thing"] []
  g_lis_number : mg "_law_is_number" = some (.ref a_lis_number)
  a_first : Addr
  d_first : FuncData
  F_first : Fun K "_law_first" "_law_first" s_first a_first d_first
  b_first : Binds K d_first ["_law_loops_here"] []
  g_first : mg "_law_first" = some (.ref a_first)
  a_due : Addr
  d_due : FuncData
  F_due : Fun K "_law_due" "_law_due" s_due a_due d_due
  b_due : Binds K d_due ["_law_text"] []
  g_due : mg "_law_due" = some (.ref a_due)
  a_read : Addr
  d_read : FuncData
  F_read : Fun K "_law_read" "_law_read" s_read a_read d_read
  b_read : Binds K d_read ["_law_text"] []
  g_read : mg "_law_read" = some (.ref a_read)
  a_law : Addr
  d_law : FuncData
  F_law : Fun K "law" "law" s_law a_law d_law
  b_law : Binds K d_law ["_law_script"] []
  g_law : mg "law" = some (.ref a_law)
  t_DIGITS : Tok
  c_DIGITS : mg "DIGITS" = some (.str "123456789" t_DIGITS)
  t_MOST_DIGITS : Tok
  c_MOST_DIGITS : mg "MOST_DIGITS" = some (.int 4 t_MOST_DIGITS)
  t_GREATEST_SUM : Tok
  c_GREATEST_SUM : mg "GREATEST_SUM" = some (.int 24 t_GREATEST_SUM)
  t_MOST_LOOPS : Tok
  c_MOST_LOOPS : mg "MOST_LOOPS" = some (.int 3 t_MOST_LOOPS)
  t_MOST_BOXES : Tok
  c_MOST_BOXES : mg "MOST_BOXES" = some (.int 10 t_MOST_BOXES)
  t_MOST_ROUNDS : Tok
  c_MOST_ROUNDS : mg "MOST_ROUNDS" = some (.int 8 t_MOST_ROUNDS)
  t_LOOP_HEAD : Tok
  c_LOOP_HEAD : mg "LOOP_HEAD" = some (.str "loop " t_LOOP_HEAD)
  z_all : mg "all" = none
  z_bool : mg "bool" = none
  z_enumerate : mg "enumerate" = none
  z_int : mg "int" = none
  z_isinstance : mg "isinstance" = none
  z_len : mg "len" = none
  z_list : mg "list" = none
  z_min : mg "min" = none
  z_range : mg "range" = none
  z_set : mg "set" = none
  z_str : mg "str" = none
  z_sum : mg "sum" = none
  z_tuple : mg "tuple" = none
  aEq : PySem.W.findIn K (.ref C) (cmpInfo .Eq).2.1 = some (some (.ref a_eq))
  iEq : PySem.W.isFn K (.ref a_eq) = true
  kb2 : KBn K d_init ["self", "loops", "rounds", "hear"] 2 ["rounds", "hear"] (fun us ws => us ++ ws) (fun vs zs => vs ++ zs)
end K10

/-! The promises. -/
namespace K10
open PySem L2 Wm Dv
/-- a box: its number and its sort, any texts -/
abbrev Bx := Str × Str
def bxD (b : Bx) : PyData := .tuple [.str b.1, .str b.2]
def lpD (l : List Bx) : PyData := .tuple (l.map bxD)
def townD (ls : List (List Bx)) : PyData := .tuple (ls.map lpD)
def numD (b : Bx) : PyData := .str b.1
def LpAt (K : PySem.W.Frag) (H : Hp) (v : V) (l : List Bx) : Prop := ∃ q ys, v = .ref q ∧ H q = some (.lst ys) ∧ Dts K H ys (l.map bxD)
def LpsAt (K : PySem.W.Frag) (H : Hp) (p : Addr) (ls : List (List Bx)) : Prop := ∃ xs, H p = some (.lst xs) ∧ xs.length = ls.length ∧ ∀ (i : Nat) v, xs[i]? = some v → ∃ l, ls[i]? = some l ∧ LpAt K H v l
theorem LpAt.k {K : PySem.W.Frag} {H H' : Hp} {v : V} {l : List Bx} (h : LpAt K H v l) (s : Same H H') : LpAt K H' v l := by
  obtain ⟨q, ys, e, hq, hd⟩ := h
  exact ⟨q, ys, e, s _ _ hq, hd.k (Kt.same s)⟩
theorem LpsAt.k {K : PySem.W.Frag} {H H' : Hp} {p : Addr} {ls : List (List Bx)} (h : LpsAt K H p ls) (s : Same H H') : LpsAt K H' p ls := by
  obtain ⟨xs, hp, el, ha⟩ := h
  exact ⟨xs, s _ _ hp, el, fun i v hv => let ⟨l, hl, hL⟩ := ha i v hv; ⟨l, hl, hL.k s⟩⟩
/-- texts and rows of moderate size -/
def Sz (n : Nat) (ls : List (List Bx)) : Prop := ls.length ≤ n ∧ (∀ l ∈ ls, l.length ≤ n) ∧ ∀ l ∈ ls, ∀ b ∈ l, b.1.length ≤ n ∧ b.2.length ≤ n
noncomputable def numOk (t : Str) : Bool := @decide (IsNum t) (Classical.propDecidable _)
theorem numOk_of {t : Str} {b : Bool} (h : b = true ↔ IsNum t) : b = numOk t := by
  unfold numOk
  cases b with
  | true => exact (@decide_eq_true _ (Classical.propDecidable _) (h.mp rfl)).symm
  | false => exact (@decide_eq_false _ (Classical.propDecidable _) fun z => by cases h.mpr z).symm
def sortOk (t : Str) : Bool := decide (t = "plain") || decide (t = "shy")
def dbl (bs : List Bx) : Bool := !decide (bs.map Prod.fst).Nodup
def loopsOk (ls : List (List Bx)) : Bool := (decide (1 ≤ ls.length) && decide (ls.length ≤ 3)) && ls.all fun l => decide (1 ≤ l.length) && decide (l.length ≤ 10)
noncomputable def boxW (bs : List Bx) : Option Str := if bs.all (fun b => numOk b.1) = false then some "number" else if bs.all (fun b => sortOk b.2) = false then some "sort" else if dbl bs = true then some "double" else none
noncomputable def loopW (ls : List (List Bx)) : Option Str := if loopsOk ls = false then some "loops" else boxW ls.flatten
def ruleW (r h : Int) : Option Str := if 1 ≤ r ∧ r ≤ 8 then if (1 ≤ h ∧ h ≤ 2) ∧ ¬ h > r then none else some "hear" else some "rounds"
noncomputable def townW (ls : List (List Bx)) (r h : Int) : Option Str := match loopW ls with | some w => some w | none => ruleW r h
def TownAt (K : PySem.W.Frag) (C : Addr) (H : Hp) (p : Addr) (ls : List (List Bx)) (r h : Int) : Prop :=
  ∃ dx fs y y2, H p = some (.ins C dx fs) ∧ fs.lookup ("loops" : Str) = some y ∧ fs.lookup ("rounds" : Str) = some (.int r) ∧ fs.lookup ("hear" : Str) = some (.int h) ∧ fs.lookup ("numbers" : Str) = some y2 ∧
    (∀ m : Str, m ≠ "loops" → m ≠ "rounds" → m ≠ "hear" → m ≠ "numbers" → fs.lookup m = none) ∧ Dt K H y (townD ls) ∧ Dt K H y2 (.tuple (ls.flatten.map numD))
def Er (C : Addr) (f : Str) (E : XK) (H : Hp) (x : V) : Prop := ∀ H' d, Same H H' → H' d = some (.xd [(f, x)]) → E (.ref C) (some d) H'
theorem Er.after {C : Addr} {f : Str} {E : XK} {H H1 : Hp} {x : V} (h : Er C f E H x) (s : Same H H1) : Er C f E H1 x := fun H' d s' e => h H' d (s.trans s') e
def Er2 (C : Addr) (E : XK) (H : Hp) (x y : V) : Prop := ∀ H' d, Same H H' → H' d = some (.xd [(("what" : Str), y), (("row" : Str), x)]) → E (.ref C) (some d) H'
theorem Er2.after {C : Addr} {E : XK} {H H1 : Hp} {x y : V} (h : Er2 C E H x y) (s : Same H H1) : Er2 C E H1 x y := fun H' d s' e => h H' d (s.trans s') e
/-! texts -/
def digO (t : Str) : Option Nat := match t.cps.toList with | [c] => if 48 ≤ c ∧ c ≤ 57 then some (c - 48) else none | _ => none
def headW (ws : List Str) : Option (Nat × Nat) := match ws with
  | [a, b, c, d] => if a = "rounds" ∧ c = "hear" then match digO b, digO d with | some r, some h => some (r, h) | _, _ => none else none
  | _ => none
def headO (t : Str) : Option (Nat × Nat) := headW (Txt.split t " ")
def pieceW (ws : List Str) : Option Bx := match ws with | [a, b] => if a ≠ "" ∧ b ≠ "" then some (a, b) else none | _ => none
def pieceO (t : Str) : Option Bx := pieceW (Txt.split t " ")
def piecesO : List Str → Option (List Bx)
  | [] => some []
  | t :: ts => match pieceO t with
    | none => none
    | some b => match piecesO ts with
      | none => none
      | some bs => some (b :: bs)
def rowO (t : Str) : Option (List Bx) := if cutS t none (some 5) = ("loop " : Str) then piecesO (Txt.split (cutS t (some 5) none) ", ") else none
/-- the first place that holds, from 1 on; 1 if none does -/
def firstI (bs : List Bool) : Int := match bs.findIdx? id with | some i => (i : Int) + 1 | none => 1
noncomputable def wrongI (w : Str) (ls : List (List Bx)) : Int :=
  if w = "rounds" ∨ w = "hear" then 0 else
  if w = "loops" then firstI ((List.range ls.length).map fun i => decide (10 < (ls.getD i []).length) || decide (3 ≤ i)) else
  if w = "number" then firstI (ls.map fun l => !(l.all fun b => numOk b.1)) else
  if w = "sort" then firstI (ls.map fun l => !(l.all fun b => sortOk b.2)) else
  firstI ((List.range ls.length).map fun i => dbl (ls.take (i + 1)).flatten)
inductive Rd where
  | bad (i : Int) (w : Str)
  | good (ls : List (List Bx)) (r h : Nat)
/-- rows read one by one: the first that can't be, from 0 on -/
def rowsO : List Str → Nat ⊕ List (List Bx)
  | [] => .inr []
  | t :: ts => match rowO t with
    | none => .inl 0
    | some l => match rowsO ts with
      | .inl i => .inl (i + 1)
      | .inr ls => .inr (l :: ls)
noncomputable def readW (rows : List Str) : Rd := match headO (rows.getD 0 "") with
  | none => .bad 0 "head"
  | some (r, h) => match rowsO (rows.drop 1) with
    | .inl i => .bad ((i : Int) + 1) "loop"
    | .inr ls => match townW ls r h with
      | some w => .bad (wrongI w ls) w
      | none => .good ls r h
noncomputable def readO (t : Str) : Rd := readW (Txt.split t "\n")
/-! defs -/
def sp_is_whole (_ : PySem.W.Frag) : Sp := fun vs H Q _ => ∃ i : Int, vs = [.int i] ∧ Q (.bl true) H
def sp_is_whole_within (_ : PySem.W.Frag) : Sp := fun vs H Q _ => ∃ i lo hi : Int, vs = [.int i, .int lo, .int hi] ∧ Q (.bl (decide (lo ≤ i ∧ i ≤ hi))) H
def sp_is_sequence (K : PySem.W.Frag) : Sp := fun vs H Q _ => ∃ (p : Addr) (xs : List V) (t : Bool), vs = [.ref p] ∧ Kd.Is K t H p xs ∧ ∀ H', Same H H' → Q (.bl true) H'
def sp_is_digit (_ : PySem.W.Frag) : Sp := fun vs H Q _ => ∃ t : Str, vs = [.str t] ∧ t.length ≤ 100000 ∧ Q (.bl (digO t).isSome) H
def sp_is_number (_ : PySem.W.Frag) : Sp := fun vs H Q _ => ∃ t : Str, t.length ≤ 100000 ∧ vs = [.str t] ∧ ∀ H', Same H H' → Q (.bl (numOk t)) H'
def sp_lis_number (_ : PySem.W.Frag) : Sp := fun vs H Q _ => ∃ t : Str, t.length ≤ 100000 ∧ vs = [.str t] ∧ ∀ H', Same H H' → Q (.bl (numOk t)) H'
def sp_is_sort (_ : PySem.W.Frag) : Sp := fun vs H Q _ => ∃ t : Str, vs = [.str t] ∧ ∀ H', Same H H' → Q (.bl (sortOk t)) H'
def sp_has_double (K : PySem.W.Frag) : Sp := fun vs H Q _ => ∃ (p : Addr) (xs : List V) (bs : List Bx), vs = [.ref p] ∧ SqL K H p xs ∧ Dts K H xs (bs.map bxD) ∧ bs.length ≤ 100 ∧ ∀ H', Same H H' → Q (.bl (dbl bs)) H'
def sp_are_loops (K : PySem.W.Frag) : Sp := fun vs H Q _ => ∃ (p : Addr) (ls : List (List Bx)), vs = [.ref p] ∧ LpsAt K H p ls ∧ Sz 30000 ls ∧ ∀ H', Same H H' → Q (.bl (loopsOk ls)) H'
def sp_check_boxes (K : PySem.W.Frag) (CB : Addr) : Sp := fun vs H Q E => ∃ (p : Addr) (xs : List V) (bs : List Bx), vs = [.ref p] ∧ SqL K H p xs ∧ Dts K H xs (bs.map bxD) ∧ bs.length ≤ 100 ∧ (∀ b ∈ bs, b.1.length ≤ 30000) ∧
  (boxW bs = none → ∀ H', Same H H' → Q .non H') ∧ ∀ w, boxW bs = some w → Er CB "what" E H (.str w)
def sp_check_town (K : PySem.W.Frag) (CB : Addr) : Sp := fun vs H Q E => ∃ (p : Addr) (ls : List (List Bx)) (r h : Int), vs = [.ref p, .int r, .int h] ∧ LpsAt K H p ls ∧ Sz 30000 ls ∧
  (townW ls r h = none → ∀ H', Same H H' → Q .non H') ∧ ∀ w, townW ls r h = some w → Er CB "what" E H (.str w)
def sp_init (K : PySem.W.Frag) (C CB : Addr) : Sp := fun vs H Q E => ∃ (p q dx : Addr) (ls : List (List Bx)) (r h : Int), vs = [.ref p, .ref q, .int r, .int h] ∧ H p = some (.ins C dx []) ∧ LpsAt K H q ls ∧ Sz 30000 ls ∧
  (townW ls r h = none → ∀ H', (∀ q o, q ≠ p → H q = some o → H' q = some o) → TownAt K C H' p ls r h → Q .non H') ∧ ∀ w, townW ls r h = some w → Er CB "what" E H (.str w)
def sp_eq (K : PySem.W.Frag) (C : Addr) : Sp := fun vs H Q _ => ∃ (p p2 : Addr) (ls : List (List Bx)) (r h : Int), vs = [.ref p, .ref p2] ∧ TownAt K C H p ls r h ∧ TownAt K C H p2 ls r h ∧ SeqAt.shaped (townD ls) = true ∧ PyData.eqv (townD ls) (townD ls) = true ∧ Q (.bl true) H
def sp_first_row (K : PySem.W.Frag) : Sp := fun vs H Q _ => ∃ (p : Addr) (bs : List Bool), vs = [.ref p] ∧ SqL K H p (bs.map V.bl) ∧ ∀ H', Same H H' → Q (.int (firstI bs)) H'
def sp_is_loop_too_much (K : PySem.W.Frag) : Sp := fun vs H Q _ => ∃ (i : Nat) (q : Addr) (ys : List V), vs = [.int (i : Nat), .ref q] ∧ SqL K H q ys ∧ Q (.bl (decide (10 < ys.length) || decide (3 ≤ i))) H
def sp_has_double_up_to (K : PySem.W.Frag) : Sp := fun vs H Q _ => ∃ (p : Addr) (ls : List (List Bx)) (i : Nat), vs = [.ref p, .int (i : Nat)] ∧ LpsAt K H p ls ∧ ls.length ≤ 3 ∧ (∀ l ∈ ls, l.length ≤ 10) ∧ ∀ H', Same H H' → Q (.bl (dbl (ls.take (i + 1)).flatten)) H'
def sp_wrong_row (K : PySem.W.Frag) : Sp := fun vs H Q _ => ∃ (w : Str) (p : Addr) (ls : List (List Bx)), vs = [.str w, .ref p] ∧ LpsAt K H p ls ∧ Sz 30000 ls ∧ (w ≠ "loops" → loopsOk ls = true) ∧ ∀ H', Same H H' → Q (.int (wrongI w ls)) H'
def sp_read_head (K : PySem.W.Frag) (CR : Addr) : Sp := fun vs H Q E => ∃ t : Str, vs = [.str t] ∧ t.length ≤ 20000 ∧
  (∀ r h, headO t = some (r, h) → ∀ H' q, Same H H' → H' q = some (.tup [.int (r : Nat), .int (h : Nat)]) → Q (.ref q) H') ∧ (headO t = none → Er2 CR E H (.int 0) (.str "head"))
def sp_read_loop (K : PySem.W.Frag) (CR : Addr) : Sp := fun vs H Q E => ∃ (i : Int) (t : Str), vs = [.int i, .str t] ∧ t.length ≤ 20000 ∧
  (∀ l, rowO t = some l → ∀ H' v, Same H H' → LpAt K H' v l → (∀ q, v = .ref q → H q = none) → Q v H') ∧ (rowO t = none → Er2 CR E H (.int i) (.str "loop"))
def sp_read_town (K : PySem.W.Frag) (C CR : Addr) : Sp := fun vs H Q E => ∃ t : Str, vs = [.str t] ∧ t.length ≤ 20000 ∧
  (∀ ls r h, readO t = .good ls r h → ∀ H' p, Same H H' → TownAt K C H' p ls r h → Q (.ref p) H') ∧ ∀ i w, readO t = .bad i w → Er2 CR E H (.int i) (.str w)
def sp_bag (K : PySem.W.Frag) : Sp := fun vs H Q _ => ∃ (a : Addr) (ns : List Int), vs = [.ref a] ∧ SqL K H a (ns.map V.int) ∧ ns.length ≤ 63 ∧ ∀ H' b, Same H H' → Bag H' b 0 → Q (.ref b) H'
def sp_draw (K : PySem.W.Frag) : Sp := fun vs H Q _ => ∃ (b : Addr) (n : Nat) (lim : Int), vs = [.ref b, .int lim] ∧ 0 < lim ∧ lim < 2 ^ 100 ∧ Bag H b n ∧ n ≤ 1000000 ∧
  ∀ H' d, 0 ≤ d → d < lim → Bag H' b (n + 1) → But b H H' → Q (.int d) H'
def sp_number (K : PySem.W.Frag) : Sp := fun vs H Q _ => ∃ (b : Addr) (n : Nat), vs = [.ref b] ∧ Bag H b n ∧ n ≤ 900000 ∧ ∀ H' (ds : List Nat), Num ds → Bag H' b (n + 6) → But b H H' → Q (.str (numS ds)) H'
def sp_numbers (K : PySem.W.Frag) : Sp := fun vs H Q _ => ∃ (b : Addr) (n many : Nat), vs = [.ref b, .int (many : Nat)] ∧ many ≤ 60 ∧ Bag H b n ∧ n ≤ 800000 ∧
  ∀ H' p (dss : List (List Nat)), dss.length = many → (∀ ds ∈ dss, Num ds) → (dss.map numS).Nodup → H p = none → H' p = some (.lst ((dss.map numS).map V.str)) → Bag H' b (n + 6 * many) → But b H H' → Q (.ref p) H'
/-- a box as a list of two short texts; rows, grids of such -/
def BxL (H : Hp) (v : V) : Prop := ∃ q, ∃ s t : Str, v = .ref q ∧ H q = some (.lst [.str s, .str t]) ∧ s.length ≤ 20 ∧ t.length ≤ 20
def RwL (H : Hp) (v : V) : Prop := ∃ q ys, v = .ref q ∧ H q = some (.lst ys) ∧ 1 ≤ ys.length ∧ ys.length ≤ 12 ∧ ∀ y ∈ ys, BxL H y
def GdL (H : Hp) (v : V) : Prop := ∃ q xs, v = .ref q ∧ H q = some (.lst xs) ∧ 1 ≤ xs.length ∧ xs.length ≤ 4 ∧ ∀ x ∈ xs, RwL H x
def sp_pairs (K : PySem.W.Frag) : Sp := fun vs H Q _ => ∃ (b p : Addr) (n : Nat) (ts : List Str), vs = [.ref b, .ref p] ∧ Bag H b n ∧ n ≤ 900000 ∧ p ≠ b ∧ H p = some (.lst (ts.map V.str)) ∧ ts.length ≤ 60 ∧ (∀ t ∈ ts, t.length ≤ 20) ∧
  ∀ H' q ys, H' q = some (.lst ys) → ys.length = ts.length → (∀ y ∈ ys, BxL H' y) → Bag H' b (n + ts.length) → But b H H' → Q (.ref q) H'
def sp_loops (K : PySem.W.Frag) : Sp := fun vs H Q _ => ∃ (b : Addr) (n : Nat), vs = [.ref b] ∧ Bag H b n ∧ n ≤ 700000 ∧ ∀ H' v m, GdL H' v → Bag H' b m → m ≤ n + 1000 → Q v H'
def sp_box_fault (K : PySem.W.Frag) : Sp := fun vs H Q _ => ∃ (b : Addr) (n : Nat) (v : V), vs = [.ref b, v] ∧ Bag H b n ∧ n ≤ 900000 ∧ GdL H v ∧ ∀ H' v' m, GdL H' v' → Bag H' b m → m ≤ n + 10 → Q v' H'
def sp_head (K : PySem.W.Frag) : Sp := fun vs H Q _ => ∃ (b : Addr) (n : Nat), vs = [.ref b] ∧ Bag H b n ∧ n ≤ 900000 ∧ ∀ H' (t : Str) m, t.length ≤ 100 → Bag H' b m → m ≤ n + 10 → But b H H' → Q (.str t) H'
def sp_row_fault (K : PySem.W.Frag) : Sp := fun vs H Q _ => ∃ (b p : Addr) (n : Nat) (ts : List Str), vs = [.ref b, .ref p] ∧ Bag H b n ∧ n ≤ 900000 ∧ p ≠ b ∧ H p = some (.lst (ts.map V.str)) ∧ 1 ≤ ts.length ∧ ts.length ≤ 5 ∧ (∀ t ∈ ts, t.length ≤ 1000) ∧
  ∀ H' q (us : List Str), H' q = some (.lst (us.map V.str)) → us.length ≤ 6 → (∀ t ∈ us, t.length ≤ 3000) → Q (.ref q) H'
def sp_pieces (K : PySem.W.Frag) : Sp := fun vs H Q _ => ∃ t : Str, vs = [.str t] ∧ t.length ≤ 20000 ∧ (∀ l, rowO t = some l → ∀ H' v, Same H H' → LpAt K H' v l → (∀ q, v = .ref q → H q = none) → Q v H') ∧ (rowO t = none → ∀ H', Same H H' → Q .non H')
def sp_first (K : PySem.W.Frag) : Sp := fun vs H Q _ => ∃ (p : Addr) (ls : List (List Bx)), vs = [.ref p] ∧ LpsAt K H p ls ∧ Sz 30000 ls ∧ (∀ l ∈ ls, 1 ≤ l.length) ∧
  (loopW ls = none → ∀ H', Same H H' → Q .non H') ∧ ∀ w, loopW ls = some w → ∀ H' q, Same H H' → H' q = some (.tup [.int (wrongI w ls), .str w]) → Q (.ref q) H'
def BadAt (H : Hp) (v : V) (i : Int) (w : Str) : Prop := ∃ q, v = .ref q ∧ H q = some (.tup [.int i, .str w])
def DueAt (K : PySem.W.Frag) (H : Hp) (v : V) (ls : List (List Bx)) (r h : Nat) : Prop := ∃ q p s, v = .ref q ∧ H q = some (.tup [.ref p, .ref s]) ∧ LpsAt K H p ls ∧ H s = some (.lst [.int (r : Nat), .int (h : Nat)])
def sp_due (K : PySem.W.Frag) : Sp := fun vs H Q _ => ∃ t : Str, vs = [.str t] ∧ t.length ≤ 20000 ∧ (∀ i w, readO t = .bad i w → ∀ H' v, Same H H' → BadAt H' v i w → Q v H') ∧ ∀ ls r h, readO t = .good ls r h → ∀ H' v, Same H H' → DueAt K H' v ls r h → Q v H'
def sp_read (K : PySem.W.Frag) (C : Addr) : Sp := fun vs H Q _ => ∃ t : Str, vs = [.str t] ∧ t.length ≤ 20000 ∧ (∀ i w, readO t = .bad i w → ∀ H' v, Same H H' → BadAt H' v i w → Q v H') ∧
  ∀ ls r h, readO t = .good ls r h → ∀ H' q p, Same H H' → H' q = some (.tup [.str "town", .ref p]) → TownAt K C H' p ls r h → Q (.ref q) H'
def sp_law (K : PySem.W.Frag) : Sp := fun vs H Q _ => ∃ (a : Addr) (ns : List Int), vs = [.ref a] ∧ SqL K H a (ns.map V.int) ∧ ns.length ≤ 63 ∧ ∀ H', Q (.bl true) H'
end K10

namespace K10
open PySem L2 Wm TL Dv De
section
variable {P : Program} {w : World} {K : PySem.W.Frag} {mg : Str → Option Value} {base : Heap}
theorem tyT {H : Hp} {p : Addr} {xs : List V} (h : SqT K H p xs) : TyX K H (.ref p) (.type "tuple") := by
  rcases h with (h | ⟨o, h⟩) | ⟨o, its, n, e, c, _⟩
  · exact .base (.tup h)
  · exact .fTuple h
  · exact .kTuple e c
theorem tyL {H : Hp} {p : Addr} {xs : List V} (h : SqL K H p xs) : TyX K H (.ref p) (.type "list") := by
  rcases h with (h | ⟨o, h⟩) | ⟨o, its, n, e, c, _⟩
  · exact .base (.lst h)
  · exact .base (.frz h)
  · exact .kList e c
theorem box_inv {H : Hp} {x : V} {b : Bx} (h : Dt K H x (bxD b)) : ∃ p, x = .ref p ∧ SqT K H p [.str b.1, .str b.2] := by
  obtain ⟨p, xs, rfl, hS, hd⟩ := h.inv
  cases hd with
  | cons a r =>
    cases r with
    | cons b2 r =>
      cases r
      rw [a.str_inv, b2.str_inv] at hS
      exact ⟨p, rfl, hS⟩
theorem boxes_at {H : Hp} {xs : List V} {bs : List Bx} {i : Nat} {x : V} (h : Dts K H xs (bs.map bxD)) (hx : xs[i]? = some x) : ∃ b, bs[i]? = some b ∧ Dt K H x (bxD b) := by
  obtain ⟨d, hd, a⟩ := h.at hx
  rw [List.getElem?_map] at hd
  obtain ⟨b, hb, rfl⟩ := Option.map_eq_some_iff.mp hd
  exact ⟨b, hb, a⟩
theorem boxes_len {H : Hp} {xs : List V} {bs : List Bx} (h : Dts K H xs (bs.map bxD)) : xs.length = bs.length := by rw [h.len, List.length_map]
theorem small_len {n : Nat} (h : n ≤ 100000) : n ≤ sizeLine := by
  have : (100000 : Nat) ≤ sizeLine := by decide
  omega
theorem small_lt {n : Nat} (h : n ≤ 100000) : n < sizeLine := by
  have : (100000 : Nat) < sizeLine := by decide
  omega
theorem ok_is_whole (T : Txt K mg) : FnOk P w K mg base CX0 1 T.a_is_whole T.d_is_whole ["thing"] (sp_is_whole K) := by
  refine T.F_is_whole.ok sc_is_whole (fun vs H Q E h => ?_) (fun cdv A outer s H vs Q E hr h => ?_)
  · obtain ⟨i, rfl, _⟩ := h
    rfl
  · obtain ⟨i, rfl, k⟩ := h
    refine ⟨_, (pss_one (ps_ret (pe_and (pe_callB call_isi (by rfl) T.z_isinstance (by decide +kernel) (pa_cons (pv 0) (pa_cons (pe_bltn (v := V.ty "int") (by rfl) T.z_int (by decide +kernel) rfl) pa_nil))) (pe_one (pe_not (pe_callB call_isi (by rfl) T.z_isinstance (by decide +kernel) (pa_cons (pv 0) (pa_cons (pe_bltn (v := V.ty "bool") (by rfl) T.z_bool (by decide +kernel) rfl) pa_nil)))))))), ?_⟩
    refine ⟨_, rfl, _, _, _, _, true, rfl, .ty "int", .base (.int _), kit_ty (by decide +kernel), true, rfl, iteT ?_⟩
    exact ⟨_, rfl, _, _, _, _, false, rfl, .ty "bool", .base (.int _), kit_ty (by decide +kernel), false, rfl, k⟩
theorem ok_is_whole_within (T : Txt K mg) : FnOk P w K mg base CX0 2 T.a_is_whole_within T.d_is_whole_within ["thing", "low", "high"] (sp_is_whole_within K) := by
  refine T.F_is_whole_within.ok sc_is_whole_within (fun vs H Q E h => ?_) (fun cdv A outer s H vs Q E hr h => ?_)
  · obtain ⟨i, lo, hi, rfl, _⟩ := h
    rfl
  · obtain ⟨i, lo, hi, rfl, k⟩ := h
    refine ⟨_, (pss_one (ps_ret (pe_and (pe_call (ok_is_whole T) (hr.mono (by decide)) (by rfl) T.g_is_whole T.F_is_whole.kp T.b_is_whole .nil pass0 (pa_cons (pv 0) pa_nil)) (pe_one (pe_chain op_le op_le (pv 1) (pv 0) (pv 2)))))), ?_⟩
    refine ⟨_, rfl, i, rfl, ?_⟩
    refine ⟨true, rfl, iteT ?_⟩
    refine ⟨_, rfl, _, rfl, _, _, rfl, rfl, _, rfl, ?_⟩
    by_cases e : lo ≤ i
    · rw [decide_eq_true e]
      refine iteT ⟨_, rfl, _, _, rfl, rfl, ?_⟩
      have e2 : decide (lo ≤ i ∧ i ≤ hi) = decide (i ≤ hi) := by simp [e]
      rw [e2] at k
      exact k
    · rw [decide_eq_false e]
      have e2 : decide (lo ≤ i ∧ i ≤ hi) = false := by simp [e]
      rw [e2] at k
      exact iteF k
theorem ok_is_sequence (T : Txt K mg) : FnOk P w K mg base CX0 1 T.a_is_sequence T.d_is_sequence ["thing"] (sp_is_sequence K) := by
  refine T.F_is_sequence.ok sc_is_sequence (fun vs H Q E h => ?_) (fun cdv A outer s H vs Q E hr h => ?_)
  · obtain ⟨p, xs, t, rfl, _⟩ := h
    rfl
  · obtain ⟨p, xs, t, rfl, hS, k⟩ := h
    refine ⟨_, (pss_one (ps_ret (pe_callB call_isiT (by rfl) T.z_isinstance (by decide +kernel) (pa_cons (pv 0) (pa_cons (pe_tup (pa_cons (pe_bltn (v := V.ty "list") (by rfl) T.z_list (by decide +kernel) rfl) (pa_cons (pe_bltn (v := V.ty "tuple") (by rfl) T.z_tuple (by decide +kernel) rfl) pa_nil))) pa_nil))))), ?_⟩
    refine ⟨_, rfl, by show 2 ≤ sizeLine; decide, fun t2 ht => ?_⟩
    have s1 : Same H (upd H t2 (.tup [.ty "list", .ty "tuple"])) := same_new ht
    cases t with
    | true =>
      refine ⟨_, t2, _, _, _, true, rfl, upd_same, .cons (.ty "list") (.cons (.ty "tuple") .nil), tyT (sameT s1 hS), kitAny_cons (b := false) (kit_ty (by decide +kernel)) (fun _ => kitAny_cons (b := true) (kit_ty (by decide +kernel)) (fun z => by cases z) (fun _ => rfl)) (fun z => by cases z), ?_⟩
      exact k _ s1
    | false =>
      refine ⟨_, t2, _, _, _, true, rfl, upd_same, .cons (.ty "list") (.cons (.ty "tuple") .nil), tyL (Hf.keepL s1 hS), kitAny_cons (b := true) (kit_ty (by decide +kernel)) (fun z => by cases z) (fun _ => rfl), ?_⟩
      exact k _ s1
theorem inV_two (t : Str) : inV (.str t) [V.str "plain", V.str "shy"] = sortOk t := by
  unfold inV sortOk
  show (((("plain" : Str) == t) || ((("shy" : Str) == t) || false))) = _
  by_cases e : t = "plain"
  · subst e
    simp
  · by_cases e2 : t = "shy"
    · subst e2
      simp
    · have n1 : (("plain" : Str) == t) = false := beq_eq_false_iff_ne.mpr (Ne.symm e)
      have n2 : (("shy" : Str) == t) = false := beq_eq_false_iff_ne.mpr (Ne.symm e2)
      rw [n1, n2, decide_eq_false e, decide_eq_false e2]
      rfl
theorem ok_is_sort (T : Txt K mg) : FnOk P w K mg base CX0 1 T.a_is_sort T.d_is_sort ["thing"] (sp_is_sort K) := by
  refine T.F_is_sort.ok sc_is_sort (fun vs H Q E h => ?_) (fun cdv A outer s H vs Q E hr h => ?_)
  · obtain ⟨t, rfl, _⟩ := h
    rfl
  · obtain ⟨t, rfl, k⟩ := h
    refine ⟨_, (pss_one (ps_ret (pe_cmpR op_in_seq (pv 0) (pe_tup (pa_cons (ClX.pe_cval (pe_glob (v := V.ref T.C) rfl T.gC rfl)) (pa_cons (ClX.pe_cval (pe_glob (v := V.ref T.C) rfl T.gC rfl)) pa_nil))) rfl))), ?_⟩
    refine ⟨_, rfl, T.C, T.mc, _, _, rfl, T.rd, T.vP, T.C, T.mc, _, _, rfl, T.rd, T.vS, by show 2 ≤ sizeLine; decide, fun t2 ht => ?_⟩
    refine ⟨t2, _, rfl, .inr (SqT.of upd_same), rfl, rfl, ?_⟩
    show Q (V.bl (if false = true then _ else inV (.str t) [V.str "plain", V.str "shy"])) _
    rw [if_neg (by decide), inV_two]
    exact k _ (same_new ht)
theorem okH_is_sort (T : Txt K mg) : L2H.FnH P w K mg base CX0 1 T.a_is_sort T.d_is_sort ["thing"] (sp_is_sort K) := by
  refine Hw.okH T.F_is_sort sc_is_sort (fun vs H Q E h => ?_) (fun cdv A outer s H vs Q E p0 hc hr h => ?_)
  · obtain ⟨t, rfl, _⟩ := h
    rfl
  · obtain ⟨t, rfl, k⟩ := h
    refine ⟨_, (pss_one (ps_ret (pe_cmpR op_in_seq (pv 0) (pe_tup (pa_cons (ClX.pe_cval (pe_glob (v := V.ref T.C) rfl T.gC rfl)) (pa_cons (ClX.pe_cval (pe_glob (v := V.ref T.C) rfl T.gC rfl)) pa_nil))) rfl))), ?_⟩
    refine ⟨_, rfl, T.C, T.mc, _, _, rfl, T.rd, T.vP, T.C, T.mc, _, _, rfl, T.rd, T.vS, by show 2 ≤ sizeLine; decide, fun t2 ht => ?_⟩
    refine ⟨t2, _, rfl, .inr (SqT.of upd_same), rfl, rfl, ?_⟩
    show Q (V.bl (if false = true then _ else inV (.str t) [V.str "plain", V.str "shy"])) _
    rw [if_neg (by decide), inV_two]
    exact k _ (same_new ht)
end
end K10

namespace K10
open PySem L2 Wm TL Dv De
section
variable {P : Program} {w : World} {K : PySem.W.Frag} {mg : Str → Option Value} {base : Heap}
theorem sum_cast : ∀ ds : List Nat, (ds.map fun (d : Nat) => (d : Int)).sum = ((ds.sum : Nat) : Int)
  | [] => rfl
  | d :: ds => by
    rw [List.map_cons, List.sum_cons, List.sum_cons, sum_cast ds]
    omega
def letters (t : Str) : List Bool := (tl t).map fun c => decide (c ∈ ("123456789" : Str).cps.toList)
theorem letters_all {t : Str} : (letters t).all id = true ↔ ∀ c ∈ tl t, c ∈ ("123456789" : Str).cps.toList := by
  unfold letters
  rw [List.all_map, List.all_eq_true]
  constructor
  · intro h c m
    exact of_decide_eq_true (h c m)
  · intro h c m
    exact decide_eq_true (h c m)
theorem cps_at {t : Str} {i c : Nat} (h : t.cps[i]? = some c) : (tl t)[i]? = some c := by
  rw [← h]
  exact Array.getElem?_toList ..
theorem ok_is_number (T : Txt K mg) : FnOk P w K mg base CX0 1 T.a_is_number T.d_is_number ["thing"] (sp_is_number K) := by
  refine T.F_is_number.ok sc_is_number (fun vs H Q E h => ?_) (fun cdv A outer s H vs Q E hr h => ?_)
  · obtain ⟨t, _, rfl, _⟩ := h
    rfl
  · obtain ⟨t, hz, rfl, k0⟩ := h
    have k : ∀ H' b, Same H H' → (b = true ↔ IsNum t) → Q (.bl b) H' := fun H' b s e => by rw [numOk_of e]; exact k0 H' s
    have hl : t.length = (tl t).length := len_tl t
    have numlen : IsNum t → 1 ≤ t.length ∧ t.length ≤ 4 := fun ⟨ds, N, e⟩ => by
      rw [e, numS_len]
      exact ⟨N.pos, N.len⟩
    refine ⟨_, (pss_cons (ps_if (PW.pt (pw_or (pt_not (pt_val (pe_callB call_isi (by rfl) T.z_isinstance (by decide +kernel) (pa_cons (pv 0) (pa_cons (pe_bltn (v := V.ty "str") (by rfl) T.z_str (by decide +kernel) rfl) pa_nil))))) (pw_or1 (pt_not (pt_chain op_le op_le pe_int (pe_callB call_len_str (by rfl) T.z_len PySem.boot_len (pa_cons (pv 0) pa_nil)) (pe_glob (v := V.int 4) rfl T.c_MOST_DIGITS ⟨_, rfl⟩))))))
        (pss_one (ps_ret pe_bl))
        pss_nil)
      (pss_cons (ps_if (pt_not (pt_val (pe_callB (cr_all rfl) (by rfl) T.z_all (by decide +kernel) (pa_cons (pe_lc (own := [("letter", 1)]) (g := gName 1) (tt := tYes) rfl sc_is_number.nd (pi_str (pv 0)) (blkOk_by (own := [("letter", 1)]) (N := nm_is_number) (sc := (defScope s_is_number)) (by decide +kernel)) (fun _ _ _ _ _ => pg_name (i := 1) sc_is_number.nd rfl (Or.inl rfl)) (fun _ _ _ _ _ => pts_nil) (fun _ _ _ _ _ => (pe_cmpR op_in_sign (pv 1) (pe_glob (v := V.str "123456789") rfl T.c_DIGITS ⟨_, rfl⟩) rfl))) pa_nil))))
        (pss_one (ps_ret pe_bl))
        pss_nil)
      (pss_one (ps_ret (pe_cmpR op_le (pe_callB (cr_sum rfl) (by rfl) T.z_sum (by decide +kernel) (pa_cons (pe_lc (own := [("letter", 1)]) (g := gName 1) (tt := tYes) rfl sc_is_number.nd (pi_str (pv 0)) (blkOk_by (own := [("letter", 1)]) (N := nm_is_number) (sc := (defScope s_is_number)) (by decide +kernel)) (fun _ _ _ _ _ => pg_name (i := 1) sc_is_number.nd rfl (Or.inl rfl)) (fun _ _ _ _ _ => pts_nil) (fun _ _ _ _ _ => (pe_callTy call_int_str (by rfl) T.z_int (by decide +kernel) (pa_cons (pv 1) pa_nil)))) pa_nil)) (pe_glob (v := V.int 24) rfl T.c_GREATEST_SUM ⟨_, rfl⟩) (nomark _)))))), ?_⟩
    refine ⟨_, rfl, _, _, _, _, true, rfl, .ty "str", .base (.str _), kit_ty (by decide +kernel), true, rfl, ?_⟩
    refine iteF ?_
    refine ⟨_, rfl, _, rfl, small_len hz, _, _, rfl, rfl, _, rfl, ?_⟩
    refine ite2 (fun c1 => ?_) (fun c1 => ?_)
    case refine_2 =>
      have c1' : ¬ (1 : Int) ≤ (t.length : Nat) := fun z => c1 (decide_eq_true z)
      refine ⟨false, rfl, iteT ?_⟩
      exact k _ _ (Same.refl _) ⟨fun z => (by cases z), fun z => absurd (numlen z).1 (by omega)⟩
    have c1' : (1 : Int) ≤ (t.length : Nat) := of_decide_eq_true c1
    refine ⟨_, _, rfl, rfl, _, rfl, ?_⟩
    by_cases c2 : ((t.length : Nat) : Int) ≤ 4
    case neg =>
      rw [decide_eq_false c2]
      refine iteT ?_
      exact k _ _ (Same.refl _) ⟨fun z => (by cases z), fun z => absurd (numlen z).2 (by omega)⟩
    rw [decide_eq_true c2]
    refine iteF ?_
    refine ⟨_, rfl, _, rfl, fun D hD => ?_⟩
    have hsz : t.cps.size = (tl t).length := hl
    refine lc_it walk_str (fun i H' => Same H H' ∧ H' D = some (.lst (((letters t).take i).map V.bl))) ⟨same_new hD, upd_same⟩ (fun _ _ _ _ => trivial) (fun i x H1 H' hi hP hY => ?_) (fun H1 hP => ?_)
    · obtain ⟨sm, hL⟩ := hP
      obtain ⟨rfl, c, hc, rfl⟩ := hY
      have hc2 : (letters t)[i]? = some (decide (c ∈ ("123456789" : Str).cps.toList)) := by
        unfold letters
        rw [List.getElem?_map, cps_at hc]
        rfl
      refine ⟨rfl, yesT ?_⟩
      refine ⟨_, rfl, _, _, rfl, rfl, _, hL, by rw [List.length_map, List.length_take]; exact small1000 (by omega), ?_⟩
      refine ⟨same_mut sm hD, ?_⟩
      rw [upd_same, take_succ_map _ hc2]
    · obtain ⟨sm, hL⟩ := hP
      have ell : (letters t).length = t.cps.size := by unfold letters; rw [List.length_map, hsz]
      rw [← ell, List.take_length] at hL
      refine ⟨D, letters t, rfl, SqL.of hL, _, rfl, ?_⟩
      by_cases c3 : (letters t).all id = true
      case neg =>
        rw [Bool.not_eq_true] at c3
        rw [c3]
        refine iteT ?_
        refine k _ _ sm ⟨fun z => (by cases z), fun ⟨ds, N, e⟩ => ?_⟩
        have q := letters_all.mpr (by rw [e]; exact num_codes N.dig : ∀ c ∈ tl t, c ∈ ("123456789" : Str).cps.toList)
        rw [c3] at q
        cases q
      rw [c3]
      refine iteF ?_
      obtain ⟨ds, dig, et⟩ := dig_text t (letters_all.mp c3)
      subst et
      rw [numS_len] at c1' c2
      refine ⟨_, rfl, _, rfl, fun D2 hD2 => ?_⟩
      refine lc_it walk_str (fun i H' => Same H H' ∧ H' D2 = some (.lst ((ds.take i).map fun (d : Nat) => V.int (d : Int)))) ⟨sm.trans (same_new hD2), upd_same⟩ (fun _ _ _ _ => trivial) (fun i x H2 H' hi hP hY => ?_) (fun H2 hP => ?_)
      · obtain ⟨sm2, hl2⟩ := hP
        obtain ⟨rfl, c, hc, rfl⟩ := hY
        rw [numS_size] at hi
        rw [numS_at ds i hi] at hc
        have hc' := (Option.some.inj hc).symm
        subst hc'
        refine ⟨rfl, yesT ?_⟩
        refine ⟨_, rfl, _, _, rfl, dig_int (dig _ (List.getElem_mem hi)), (by show 1 ≤ 640; decide), _, hl2, by rw [List.length_map, List.length_take]; exact small1000 (by omega), ?_⟩
        refine ⟨same_mut sm2 (sm.free hD2), ?_⟩
        rw [upd_same, take_succ_map _ (List.getElem?_eq_getElem hi)]
      · obtain ⟨sm2, hl2⟩ := hP
        rw [numS_size, List.take_length] at hl2
        refine ⟨D2, ds.map fun (d : Nat) => (d : Int), rfl, SqL.of (by rw [hl2, List.map_map]; rfl), _, _, rfl, rfl, ?_⟩
        rw [sum_cast]
        refine k _ _ sm2 ?_
        rw [isnum_dig]
        constructor
        · intro z
          have z' : ((ds.sum : Nat) : Int) ≤ 24 := of_decide_eq_true z
          exact ⟨by omega, by omega, dig, by omega⟩
        · intro N
          exact decide_eq_true (show ((ds.sum : Nat) : Int) ≤ 24 by have := N.sum; omega)
theorem okH_is_number (T : Txt K mg) : L2H.FnH P w K mg base CX0 1 T.a_is_number T.d_is_number ["thing"] (sp_is_number K) := by
  refine Hw.okH T.F_is_number sc_is_number (fun vs H Q E h => ?_) (fun cdv A outer s H vs Q E p0 hc hr h => ?_)
  · obtain ⟨t, _, rfl, _⟩ := h
    rfl
  · obtain ⟨t, hz, rfl, k0⟩ := h
    have k : ∀ H' b, Same H H' → (b = true ↔ IsNum t) → Q (.bl b) H' := fun H' b s e => by rw [numOk_of e]; exact k0 H' s
    have hl : t.length = (tl t).length := len_tl t
    have numlen : IsNum t → 1 ≤ t.length ∧ t.length ≤ 4 := fun ⟨ds, N, e⟩ => by
      rw [e, numS_len]
      exact ⟨N.pos, N.len⟩
    refine ⟨_, (pss_cons (ps_if (PW.pt (pw_or (pt_not (pt_val (pe_callB call_isi (by rfl) T.z_isinstance (by decide +kernel) (pa_cons (pv 0) (pa_cons (pe_bltn (v := V.ty "str") (by rfl) T.z_str (by decide +kernel) rfl) pa_nil))))) (pw_or1 (pt_not (pt_chain op_le op_le pe_int (pe_callB call_len_str (by rfl) T.z_len PySem.boot_len (pa_cons (pv 0) pa_nil)) (pe_glob (v := V.int 4) rfl T.c_MOST_DIGITS ⟨_, rfl⟩))))))
        (pss_one (ps_ret pe_bl))
        pss_nil)
      (pss_cons (ps_if (pt_not (pt_val (pe_callB (Hw.cr_allH hc) (by rfl) T.z_all (by decide +kernel) (pa_cons (Hw.pe_lcH (own := [("letter", 1)]) (g := gName 1) (tt := tYes) hc sc_is_number.nd (Hw.pi_strH (pv 0)) (blkOk_by (own := [("letter", 1)]) (N := nm_is_number) (sc := (defScope s_is_number)) (by decide +kernel)) (fun _ _ _ _ _ => pg_name (i := 1) sc_is_number.nd rfl (Or.inl rfl)) (fun _ _ _ _ _ => pts_nil) (fun _ _ _ _ _ => (pe_cmpR op_in_sign (pv 1) (pe_glob (v := V.str "123456789") rfl T.c_DIGITS ⟨_, rfl⟩) rfl))) pa_nil))))
        (pss_one (ps_ret pe_bl))
        pss_nil)
      (pss_one (ps_ret (pe_cmpR op_le (pe_callB (Hw.cr_sumH hc) (by rfl) T.z_sum (by decide +kernel) (pa_cons (Hw.pe_lcH (own := [("letter", 1)]) (g := gName 1) (tt := tYes) hc sc_is_number.nd (Hw.pi_strH (pv 0)) (blkOk_by (own := [("letter", 1)]) (N := nm_is_number) (sc := (defScope s_is_number)) (by decide +kernel)) (fun _ _ _ _ _ => pg_name (i := 1) sc_is_number.nd rfl (Or.inl rfl)) (fun _ _ _ _ _ => pts_nil) (fun _ _ _ _ _ => (pe_callTy call_int_str (by rfl) T.z_int (by decide +kernel) (pa_cons (pv 1) pa_nil)))) pa_nil)) (pe_glob (v := V.int 24) rfl T.c_GREATEST_SUM ⟨_, rfl⟩) (nomark _)))))), ?_⟩
    refine ⟨_, rfl, _, _, _, _, true, rfl, .ty "str", .base (.str _), kit_ty (by decide +kernel), true, rfl, ?_⟩
    refine iteF ?_
    refine ⟨_, rfl, _, rfl, small_len hz, _, _, rfl, rfl, _, rfl, ?_⟩
    refine ite2 (fun c1 => ?_) (fun c1 => ?_)
    case refine_2 =>
      have c1' : ¬ (1 : Int) ≤ (t.length : Nat) := fun z => c1 (decide_eq_true z)
      refine ⟨false, rfl, iteT ?_⟩
      exact k _ _ (Same.refl _) ⟨fun z => (by cases z), fun z => absurd (numlen z).1 (by omega)⟩
    have c1' : (1 : Int) ≤ (t.length : Nat) := of_decide_eq_true c1
    refine ⟨_, _, rfl, rfl, _, rfl, ?_⟩
    by_cases c2 : ((t.length : Nat) : Int) ≤ 4
    case neg =>
      rw [decide_eq_false c2]
      refine iteT ?_
      exact k _ _ (Same.refl _) ⟨fun z => (by cases z), fun z => absurd (numlen z).2 (by omega)⟩
    rw [decide_eq_true c2]
    refine iteF ?_
    refine ⟨_, rfl, _, rfl, fun D hD => ?_⟩
    have hsz : t.cps.size = (tl t).length := hl
    refine lc_it walk_str (fun i H' => Same H H' ∧ H' D = some (.lst (((letters t).take i).map V.bl))) ⟨same_new hD, upd_same⟩ (fun _ _ _ _ => trivial) (fun i x H1 H' hi hP hY => ?_) (fun H1 hP => ?_)
    · obtain ⟨sm, hL⟩ := hP
      obtain ⟨rfl, c, hc, rfl⟩ := hY
      have hc2 : (letters t)[i]? = some (decide (c ∈ ("123456789" : Str).cps.toList)) := by
        unfold letters
        rw [List.getElem?_map, cps_at hc]
        rfl
      refine ⟨rfl, yesT ?_⟩
      refine ⟨_, rfl, _, _, rfl, rfl, _, hL, by rw [List.length_map, List.length_take]; exact small1000 (by omega), ?_⟩
      refine ⟨same_mut sm hD, ?_⟩
      rw [upd_same, take_succ_map _ hc2]
    · obtain ⟨sm, hL⟩ := hP
      have ell : (letters t).length = t.cps.size := by unfold letters; rw [List.length_map, hsz]
      rw [← ell, List.take_length] at hL
      refine ⟨D, letters t, rfl, SqL.of hL, _, rfl, ?_⟩
      by_cases c3 : (letters t).all id = true
      case neg =>
        rw [Bool.not_eq_true] at c3
        rw [c3]
        refine iteT ?_
        refine k _ _ sm ⟨fun z => (by cases z), fun ⟨ds, N, e⟩ => ?_⟩
        have q := letters_all.mpr (by rw [e]; exact num_codes N.dig : ∀ c ∈ tl t, c ∈ ("123456789" : Str).cps.toList)
        rw [c3] at q
        cases q
      rw [c3]
      refine iteF ?_
      obtain ⟨ds, dig, et⟩ := dig_text t (letters_all.mp c3)
      subst et
      rw [numS_len] at c1' c2
      refine ⟨_, rfl, _, rfl, fun D2 hD2 => ?_⟩
      refine lc_it walk_str (fun i H' => Same H H' ∧ H' D2 = some (.lst ((ds.take i).map fun (d : Nat) => V.int (d : Int)))) ⟨sm.trans (same_new hD2), upd_same⟩ (fun _ _ _ _ => trivial) (fun i x H2 H' hi hP hY => ?_) (fun H2 hP => ?_)
      · obtain ⟨sm2, hl2⟩ := hP
        obtain ⟨rfl, c, hc, rfl⟩ := hY
        rw [numS_size] at hi
        rw [numS_at ds i hi] at hc
        have hc' := (Option.some.inj hc).symm
        subst hc'
        refine ⟨rfl, yesT ?_⟩
        refine ⟨_, rfl, _, _, rfl, dig_int (dig _ (List.getElem_mem hi)), (by show 1 ≤ 640; decide), _, hl2, by rw [List.length_map, List.length_take]; exact small1000 (by omega), ?_⟩
        refine ⟨same_mut sm2 (sm.free hD2), ?_⟩
        rw [upd_same, take_succ_map _ (List.getElem?_eq_getElem hi)]
      · obtain ⟨sm2, hl2⟩ := hP
        rw [numS_size, List.take_length] at hl2
        refine ⟨D2, ds.map fun (d : Nat) => (d : Int), rfl, SqL.of (by rw [hl2, List.map_map]; rfl), _, _, rfl, rfl, ?_⟩
        rw [sum_cast]
        refine k _ _ sm2 ?_
        rw [isnum_dig]
        constructor
        · intro z
          have z' : ((ds.sum : Nat) : Int) ≤ 24 := of_decide_eq_true z
          exact ⟨by omega, by omega, dig, by omega⟩
        · intro N
          exact decide_eq_true (show ((ds.sum : Nat) : Int) ≤ 24 by have := N.sum; omega)
end
end K10

namespace K10
open PySem L2 Wm TL Dv De
section
variable {P : Program} {w : World} {K : PySem.W.Frag} {mg : Str → Option Value} {base : Heap}
theorem odd_signs {t : Str} (l : List Nat) : ∀ i, (l.take i).filter (fun c => !decide (c ∈ t.cps.toList)) = [] ↔ ∀ c ∈ l.take i, c ∈ t.cps.toList := fun i => by
  rw [List.filter_eq_nil_iff]
  simp
theorem take1 {l : List Nat} {i c : Nat} (h : l[i]? = some c) : l.take (i + 1) = l.take i ++ [c] := by
  rw [List.take_add_one, h]
  rfl
theorem ok_lis_number (T : Txt K mg) : FnOk P w K mg base CX0 1 T.a_lis_number T.d_lis_number ["_law_thing"] (sp_lis_number K) := by
  refine T.F_lis_number.ok sc_lis_number (fun vs H Q E h => ?_) (fun cdv A outer s H vs Q E hr h => ?_)
  · obtain ⟨t, _, rfl, _⟩ := h
    rfl
  · obtain ⟨t, hz, rfl, k0⟩ := h
    have k : ∀ H' b, Same H H' → (b = true ↔ IsNum t) → Q (.bl b) H' := fun H' b s e => by rw [numOk_of e]; exact k0 H' s
    refine ⟨_, (pss_cons (ps_if (PW.pt (pw_or (pt_cmpR op_lt (pe_callB call_len_str (by rfl) T.z_len PySem.boot_len (pa_cons (pv 0) pa_nil)) pe_int (nomark _)) (pw_or (pt_cmpR op_gt (pe_callB call_len_str (by rfl) T.z_len PySem.boot_len (pa_cons (pv 0) pa_nil)) pe_int (nomark _)) (pw_or1 (pt_cmpR (show OpR _ _ (De.rNeNil K) from De.op_neNil (Ind.room65 hr)) (pe_lc (own := [("_law_sign", 1)]) (g := gName 1) rfl sc_lis_number.nd (pi_str (pv 0)) (blkOk_by (own := [("_law_sign", 1)]) (N := nm_lis_number) (sc := (defScope s_lis_number)) (by decide +kernel)) (fun _ _ _ _ _ => pg_name (i := 1) sc_lis_number.nd rfl (Or.inl rfl)) (fun _ _ _ _ _ => (pts_one (pt_cmpR op_notIn_sign (pv 1) pe_str rfl))) (fun _ _ _ _ _ => (pv 1))) (pe_lst pa_nil) (nomark _))))))
        (pss_one (ps_ret pe_bl))
        pss_nil)
      (pss_one (ps_ret (pe_cmpR op_le (pe_callB (cr_sum rfl) (by rfl) T.z_sum (by decide +kernel) (pa_cons (pe_lc (own := [("_law_sign", 1)]) (g := gName 1) (tt := tYes) rfl sc_lis_number.nd (pi_str (pv 0)) (blkOk_by (own := [("_law_sign", 1)]) (N := nm_lis_number) (sc := (defScope s_lis_number)) (by decide +kernel)) (fun _ _ _ _ _ => pg_name (i := 1) sc_lis_number.nd rfl (Or.inl rfl)) (fun _ _ _ _ _ => pts_nil) (fun _ _ _ _ _ => (pe_callTy call_int_str (by rfl) T.z_int (by decide +kernel) (pa_cons (pv 1) pa_nil)))) pa_nil)) pe_int (nomark _))))), ?_⟩
    have hl : t.length = (tl t).length := len_tl t
    have numlen : IsNum t → 1 ≤ t.length ∧ t.length ≤ 4 := fun ⟨ds, N, e⟩ => by
      rw [e, numS_len]
      exact ⟨N.pos, N.len⟩
    refine ⟨_, rfl, _, rfl, small_len hz, _, _, rfl, rfl, _, rfl, ?_⟩
    refine ite2 (fun c1 => ?_) (fun c1 => ?_)
    · have c1' : ((t.length : Nat) : Int) < 1 := of_decide_eq_true c1
      refine iteT ?_
      exact k _ _ (Same.refl _) ⟨fun z => (by cases z), fun z => absurd (numlen z).1 (by omega)⟩
    have c1' : ¬ ((t.length : Nat) : Int) < 1 := fun z => c1 (decide_eq_true z)
    refine ⟨_, rfl, _, rfl, small_len hz, _, _, rfl, rfl, _, rfl, ?_⟩
    refine ite2 (fun c2 => ?_) (fun c2 => ?_)
    · have c2' : ((t.length : Nat) : Int) > 4 := of_decide_eq_true c2
      exact k _ _ (Same.refl _) ⟨fun z => (by cases z), fun z => absurd (numlen z).2 (by omega)⟩
    have c2' : ¬ ((t.length : Nat) : Int) > 4 := fun z => c2 (decide_eq_true z)
    refine ⟨_, rfl, _, rfl, fun D hD => ?_⟩
    have hsz : t.cps.size = (tl t).length := hl
    refine lc_it walk_str (fun i H' => Same H H' ∧ H' D = some (.lst ((((tl t).take i).filter (fun c => !decide (c ∈ ("123456789" : Str).cps.toList))).map fun c => V.str ⟨#[c]⟩))) ⟨same_new hD, upd_same⟩ (fun _ _ _ _ => trivial) (fun i x H1 H' hi hP hY => ?_) (fun H1 hP => ?_)
    · obtain ⟨sm, hL⟩ := hP
      obtain ⟨rfl, c, hc, rfl⟩ := hY
      have e1 := take1 (cps_at hc)
      have lq : (((tl t).take i).filter (fun c => !decide (c ∈ ("123456789" : Str).cps.toList))).length ≤ 100 := Nat.le_trans (List.length_filter_le _ _) (by rw [List.length_take]; omega)
      refine ⟨rfl, ?_⟩
      refine ⟨_, rfl, _, _, rfl, rfl, _, rfl, ite2 (fun c => ?_) (fun c => ?_)⟩
      · refine ⟨_, rfl, _, hL, by rw [List.length_map]; exact small1000 (by omega), same_mut sm hD, ?_⟩
        rw [upd_same, e1, List.filter_append, List.map_append, List.filter_cons_of_pos (by simpa using c)]
        rfl
      · refine ⟨sm, ?_⟩
        rw [hL, e1, List.filter_append, List.filter_cons_of_neg (by simpa using c), List.filter_nil, List.append_nil]
    · obtain ⟨sm, hL⟩ := hP
      rw [hsz, List.take_length] at hL
      refine ⟨by show 0 ≤ sizeLine; decide, fun u hu => ?_⟩
      have su := same_new (o := .lst []) hu
      have hLu := su _ _ hL
      refine ⟨_, _, _, rfl, rfl, SqL.of hLu, SqL.of upd_same, _, rfl, ?_⟩
      have s2 := sm.trans su
      generalize upd H1 u (.lst []) = H2 at *
      by_cases c3 : ∀ c ∈ tl t, c ∈ ("123456789" : Str).cps.toList
      case neg =>
        have ne : (tl t).filter (fun c => !decide (c ∈ ("123456789" : Str).cps.toList)) ≠ [] := fun e => c3 (by
          have q := (odd_signs (t := "123456789") (tl t) (tl t).length).mp (by rw [List.take_length]; exact e)
          rw [List.take_length] at q
          exact q)
        cases e : (tl t).filter (fun c => !decide (c ∈ ("123456789" : Str).cps.toList)) with
        | nil => exact absurd e ne
        | cons c r =>
          refine iteT ?_
          refine k _ _ s2 ⟨fun z => (by cases z), fun ⟨ds, N, e⟩ => absurd (by rw [e]; exact num_codes N.dig) c3⟩
      have e : (tl t).filter (fun c => !decide (c ∈ ("123456789" : Str).cps.toList)) = [] := by
        have q := (odd_signs (t := "123456789") (tl t) (tl t).length).mpr (by rw [List.take_length]; exact c3)
        rw [List.take_length] at q
        exact q
      rw [e]
      refine iteF ?_
      obtain ⟨ds, dig, et⟩ := dig_text t c3
      subst et
      rw [numS_len] at c1' c2'
      refine ⟨_, rfl, _, rfl, fun D2 hD2 => ?_⟩
      refine lc_it walk_str (fun i H' => Same H H' ∧ H' D2 = some (.lst ((ds.take i).map fun (d : Nat) => V.int (d : Int)))) ⟨s2.trans (same_new hD2), upd_same⟩ (fun _ _ _ _ => trivial) (fun i x H2 H' hi hP hY => ?_) (fun H2 hP => ?_)
      · obtain ⟨sm2, hl2⟩ := hP
        obtain ⟨rfl, c, hc, rfl⟩ := hY
        rw [numS_size] at hi
        rw [numS_at ds i hi] at hc
        have hc' := (Option.some.inj hc).symm
        subst hc'
        refine ⟨rfl, yesT ?_⟩
        refine ⟨_, rfl, _, _, rfl, dig_int (dig _ (List.getElem_mem hi)), (by show 1 ≤ 640; decide), _, hl2, by rw [List.length_map, List.length_take]; exact small1000 (by omega), ?_⟩
        refine ⟨same_mut sm2 (s2.free hD2), ?_⟩
        rw [upd_same, take_succ_map _ (List.getElem?_eq_getElem hi)]
      · obtain ⟨sm2, hl2⟩ := hP
        rw [numS_size, List.take_length] at hl2
        refine ⟨D2, ds.map fun (d : Nat) => (d : Int), rfl, SqL.of (by rw [hl2, List.map_map]; rfl), _, _, rfl, rfl, ?_⟩
        rw [sum_cast]
        refine k _ _ sm2 ?_
        rw [isnum_dig]
        constructor
        · intro z
          have z' : ((ds.sum : Nat) : Int) ≤ 24 := of_decide_eq_true z
          exact ⟨by omega, by omega, dig, by omega⟩
        · intro N
          exact decide_eq_true (show ((ds.sum : Nat) : Int) ≤ 24 by have := N.sum; omega)
theorem cnt_dbl {bs : List Bx} {c : Nat} (h : Sl.Cnt (bs.map Prod.fst) (bs.map Prod.fst).length c) : decide (((c : Nat) : Int) < ((bs.length : Nat) : Int)) = dbl bs := by
  obtain ⟨h1, h2⟩ := h
  rw [List.take_length] at h2
  rw [List.length_map] at h1 h2
  unfold dbl
  by_cases nd : (bs.map Prod.fst).Nodup
  · rw [decide_eq_true nd, h2.mpr nd]
    simp
  · have : c ≠ bs.length := fun e => nd (h2.mp e)
    rw [decide_eq_false nd]
    exact decide_eq_true (by omega)
theorem ok_has_double (T : Txt K mg) : FnOk P w K mg base CX0 1 T.a_has_double T.d_has_double ["boxes"] (sp_has_double K) := by
  refine T.F_has_double.ok sc_has_double (fun vs H Q E h => ?_) (fun cdv A outer s H vs Q E hr h => ?_)
  · obtain ⟨p, xs, bs, rfl, _⟩ := h
    rfl
  · obtain ⟨p, xs, bs, rfl, hS, hd, hl, k⟩ := h
    have el := boxes_len hd
    refine ⟨_, (pss_one (ps_ret (pe_cmpR op_lt (Sl.pe_len rfl (by rfl) T.z_len (by rfl) T.z_set (pe_lc (own := [("number", 1), ("_", 2)]) (g := gTup K 2 (gCons (gName 1) (gCons (gName 2) (gNil)))) (tt := tYes) rfl sc_has_double.nd (pi_list (pv 0)) (blkOk_by (own := [("number", 1), ("_", 2)]) (N := nm_has_double) (sc := (defScope s_has_double)) (by decide +kernel)) (fun _ _ _ _ _ => (pg_tup rfl (pgs_cons (pg_name (i := 1) sc_has_double.nd rfl (Or.inl rfl)) (pgs_cons (pg_name (i := 2) sc_has_double.nd rfl (Or.inl rfl)) pgs_nil)))) (fun _ _ _ _ _ => pts_nil) (fun _ _ _ _ _ => (pv 1)))) (pe_callB call_len_seq (by rfl) T.z_len PySem.boot_len (pa_cons (pv 0) pa_nil)) (nomark _)))), ?_⟩
    refine ⟨_, rfl, p, rfl, ⟨_, hS⟩, fun D hD => ?_⟩
    refine Lm.lc_map (K := K) walk_list (fun i y _ => (bs.map fun b => V.str b.1)[i]? = some y) (fun _ _ _ _ h _ => h) hD (by omega) (fun H' s => Hf.keepL s hS) (fun i x H' hi hx sm Q2 Z q => ?_) (fun H2 ys s2 hy ly hR => ?_)
    · obtain ⟨b, hb, a⟩ := boxes_at hd hx
      obtain ⟨q1, rfl, hq⟩ := box_inv (a.k (Kt.same sm))
      refine ⟨q1, _, rfl, hq, rfl, _, _, rfl, _, _, rfl, rfl, rfl, yesT ?_⟩
      refine ⟨_, rfl, q _ _ (Same.refl _) ?_⟩
      rw [List.getElem?_map, hb]
      rfl
    · have ey : ys = (bs.map Prod.fst).map V.str := by
        rw [List.map_map]
        exact Lm.list_is (by rw [ly, List.length_map, el]) hR
      rw [ey] at hy
      refine ⟨D, _, rfl, SqL.of hy, by rw [List.length_map]; omega, fun c hc => ?_⟩
      refine ⟨_, rfl, p, _, rfl, .inl (Hf.keepL s2 hS), _, _, rfl, rfl, ?_⟩
      show Q (V.bl (decide (((c : Nat) : Int) < ((xs.length : Nat) : Int)))) _
      rw [el, cnt_dbl hc]
      exact k _ s2
theorem okH_has_double (T : Txt K mg) : L2H.FnH P w K mg base CX0 1 T.a_has_double T.d_has_double ["boxes"] (sp_has_double K) := by
  refine Hw.okH T.F_has_double sc_has_double (fun vs H Q E h => ?_) (fun cdv A outer s H vs Q E p0 hc hr h => ?_)
  · obtain ⟨p, xs, bs, rfl, _⟩ := h
    rfl
  · obtain ⟨p, xs, bs, rfl, hS, hd, hl, k⟩ := h
    have el := boxes_len hd
    refine ⟨_, (pss_one (ps_ret (pe_cmpR op_lt (Sl.pe_lenH hc (by rfl) T.z_len (by rfl) T.z_set (Hw.pe_lcH (own := [("number", 1), ("_", 2)]) (g := gTup K 2 (gCons (gName 1) (gCons (gName 2) (gNil)))) (tt := tYes) hc sc_has_double.nd (Hw.pi_listH (pv 0)) (blkOk_by (own := [("number", 1), ("_", 2)]) (N := nm_has_double) (sc := (defScope s_has_double)) (by decide +kernel)) (fun _ _ _ _ _ => (Hw.pg_tupH hc (pgs_cons (pg_name (i := 1) sc_has_double.nd rfl (Or.inl rfl)) (pgs_cons (pg_name (i := 2) sc_has_double.nd rfl (Or.inl rfl)) pgs_nil)))) (fun _ _ _ _ _ => pts_nil) (fun _ _ _ _ _ => (pv 1)))) (pe_callB call_len_seq (by rfl) T.z_len PySem.boot_len (pa_cons (pv 0) pa_nil)) (nomark _)))), ?_⟩
    refine ⟨_, rfl, p, rfl, ⟨_, hS⟩, fun D hD => ?_⟩
    refine Lm.lc_map (K := K) walk_list (fun i y _ => (bs.map fun b => V.str b.1)[i]? = some y) (fun _ _ _ _ h _ => h) hD (by omega) (fun H' s => Hf.keepL s hS) (fun i x H' hi hx sm Q2 Z q => ?_) (fun H2 ys s2 hy ly hR => ?_)
    · obtain ⟨b, hb, a⟩ := boxes_at hd hx
      obtain ⟨q1, rfl, hq⟩ := box_inv (a.k (Kt.same sm))
      refine ⟨q1, _, rfl, hq, rfl, _, _, rfl, _, _, rfl, rfl, rfl, yesT ?_⟩
      refine ⟨_, rfl, q _ _ (Same.refl _) ?_⟩
      rw [List.getElem?_map, hb]
      rfl
    · have ey : ys = (bs.map Prod.fst).map V.str := by
        rw [List.map_map]
        exact Lm.list_is (by rw [ly, List.length_map, el]) hR
      rw [ey] at hy
      refine ⟨D, _, rfl, SqL.of hy, by rw [List.length_map]; omega, fun c hc => ?_⟩
      refine ⟨_, rfl, p, _, rfl, .inl (Hf.keepL s2 hS), _, _, rfl, rfl, ?_⟩
      show Q (V.bl (decide (((c : Nat) : Int) < ((xs.length : Nat) : Int)))) _
      rw [el, cnt_dbl hc]
      exact k _ s2
end
end K10

namespace K10
open PySem L2 Wm TL Dv De
section
variable {P : Program} {w : World} {K : PySem.W.Frag} {mg : Str → Option Value} {base : Heap}
theorem all_bools {bs : List Bx} {f : Bx → Bool} {H : Hp} {D : Addr} {ys : List V} (hy : H D = some (.lst ys)) (l : ys.length = bs.length) (hR : ∀ (i : Nat) y, ys[i]? = some y → (bs.map fun b => V.bl (f b))[i]? = some y) : SqL K H D ((bs.map f).map V.bl) := by
  refine SqL.of ?_
  rw [hy, List.map_map]
  congr 2
  exact Lm.list_is (by rw [l, List.length_map]) hR
theorem all_map {bs : List Bx} (f : Bx → Bool) : (bs.map f).all id = bs.all f := by rw [List.all_map]; rfl
theorem lps_at {H : Hp} {xs : List V} {ls : List (List Bx)} (ha : ∀ (i : Nat) v, xs[i]? = some v → ∃ l, ls[i]? = some l ∧ LpAt K H v l) {i : Nat} {v : V} (h : xs[i]? = some v) : ∃ l q ys, ls[i]? = some l ∧ v = .ref q ∧ H q = some (.lst ys) ∧ ys.length = l.length ∧ Dts K H ys (l.map bxD) := by
  obtain ⟨l, hl, q, ys, rfl, hq, hd⟩ := ha i v h
  exact ⟨l, q, ys, hl, rfl, hq, boxes_len hd, hd⟩
theorem ok_are_loops (T : Txt K mg) : FnOk P w K mg base CX0 2 T.a_are_loops T.d_are_loops ["thing"] (sp_are_loops K) := by
  refine T.F_are_loops.ok sc_are_loops (fun vs H Q E h => ?_) (fun cdv A outer s H vs Q E hr h => ?_)
  · obtain ⟨p, ls, rfl, _⟩ := h
    rfl
  · obtain ⟨p, ls, rfl, hL, hz, k⟩ := h
    obtain ⟨xs, hp, el, ha⟩ := hL
    obtain ⟨z1, z2, z3⟩ := hz
    refine ⟨_, (pss_cons (ps_if (PW.pt (pw_or (pt_not (pt_val (pe_call (ok_is_sequence T) (hr.mono (by decide)) (by rfl) T.g_is_sequence T.F_is_sequence.kp T.b_is_sequence .nil pass0 (pa_cons (pv 0) pa_nil)))) (pw_or1 (pt_not (pt_chain op_le op_le pe_int (pe_callB call_len_seq (by rfl) T.z_len PySem.boot_len (pa_cons (pv 0) pa_nil)) (pe_glob (v := V.int 3) rfl T.c_MOST_LOOPS ⟨_, rfl⟩))))))
        (pss_one (ps_ret pe_bl))
        pss_nil)
      (pss_one (ps_ret (pe_callB (cr_all rfl) (by rfl) T.z_all (by decide +kernel) (pa_cons (pe_lc (own := [("loop", 1)]) (g := gName 1) (tt := tYes) rfl sc_are_loops.nd (pi_list (pv 0)) (blkOk_by (own := [("loop", 1)]) (N := nm_are_loops) (sc := (defScope s_are_loops)) (by decide +kernel)) (fun _ _ _ _ _ => pg_name (i := 1) sc_are_loops.nd rfl (Or.inl rfl)) (fun _ _ _ _ _ => pts_nil) (fun _ _ _ _ _ => (pe_and (pe_call (ok_is_sequence T) (hr.mono (by decide)) (by rfl) T.g_is_sequence T.F_is_sequence.kp T.b_is_sequence .nil pass0 (pa_cons (pv 1) pa_nil)) (pe_one (pe_chain op_le op_le pe_int (pe_callB (show CallR _ _ (Kx.rLen K) from call_len_seq) (by rfl) T.z_len PySem.boot_len (pa_cons (pv 1) pa_nil)) (pe_glob (v := V.int 10) rfl T.c_MOST_BOXES ⟨_, rfl⟩)))))) pa_nil))))), ?_⟩
    refine ⟨_, rfl, p, xs, false, rfl, SqL.of hp, fun H1 s1 => ⟨true, rfl, iteF ?_⟩⟩
    refine ⟨_, rfl, p, _, rfl, .inl (SqL.of (s1 _ _ hp)), _, _, rfl, rfl, _, rfl, ?_⟩
    have no : ¬ (1 ≤ ls.length ∧ ls.length ≤ 3) → loopsOk ls = false := fun n => by
      unfold loopsOk
      have e : (decide (1 ≤ ls.length) && decide (ls.length ≤ 3)) = false := by rw [← Bool.decide_and]; exact decide_eq_false n
      rw [e]
      rfl
    by_cases c1 : (1 : Int) ≤ ((xs.length : Nat) : Int)
    case neg =>
      rw [decide_eq_false c1]
      refine ⟨false, rfl, iteT ?_⟩
      have e := no (by omega)
      rw [← e]
      exact k _ s1
    rw [decide_eq_true c1]
    refine iteT ⟨_, _, rfl, rfl, _, rfl, ?_⟩
    by_cases c2 : ((xs.length : Nat) : Int) ≤ 3
    case neg =>
      rw [decide_eq_false c2]
      refine iteT ?_
      have e := no (by omega)
      rw [← e]
      exact k _ s1
    rw [decide_eq_true c2]
    refine iteF ?_
    refine ⟨_, rfl, p, rfl, ⟨_, SqL.of (s1 _ _ hp)⟩, fun D hD => ?_⟩
    refine Lm.lc_map (K := K) walk_list (fun i y _ => (ls.map fun l => V.bl (decide (1 ≤ l.length) && decide (l.length ≤ 10)))[i]? = some y) (fun _ _ _ _ h _ => h) hD (by omega) (fun H' s => SqL.of (s _ _ (s1 _ _ hp))) (fun i x H' hi hx sm Q2 Z q => ?_) (fun H2 ys s2 hy ly hR => ?_)
    · obtain ⟨l, q1, zs, hl, rfl, hq, lz, _⟩ := lps_at ha hx
      have hq2 := sm _ _ (s1 _ _ hq)
      have b1 := z2 l (List.mem_of_getElem? hl)
      refine ⟨rfl, yesT ?_⟩
      refine ⟨_, rfl, q1, zs, false, rfl, SqL.of hq2, fun H5 s5 => ⟨true, rfl, iteT ?_⟩⟩
      refine ⟨_, rfl, q1, _, rfl, .inl (SqL.of (s5 _ _ hq2)), _, _, rfl, rfl, _, rfl, ?_⟩
      by_cases d1 : (1 : Int) ≤ ((zs.length : Nat) : Int)
      · rw [decide_eq_true d1]
        refine iteT ⟨_, _, rfl, rfl, q _ _ s5 ?_⟩
        rw [List.getElem?_map, hl]
        show some (V.bl _) = some (V.bl _)
        rw [decide_eq_true (show 1 ≤ l.length by omega), Bool.true_and]
        congr 2
        exact decide_eq_decide.mpr (by omega)
      · rw [decide_eq_false d1]
        refine iteF (q _ _ s5 ?_)
        rw [List.getElem?_map, hl]
        show some (V.bl _) = some (V.bl _)
        rw [decide_eq_false (show ¬ 1 ≤ l.length by omega)]
        rfl
    · have ey : ys = ls.map fun l => V.bl (decide (1 ≤ l.length) && decide (l.length ≤ 10)) := Lm.list_is (by rw [ly, List.length_map, el]) hR
      refine ⟨D, ls.map fun l => (decide (1 ≤ l.length) && decide (l.length ≤ 10)), rfl, SqL.of (by rw [hy, ey, List.map_map]; rfl), ?_⟩
      have e : (ls.map fun l => (decide (1 ≤ l.length) && decide (l.length ≤ 10))).all id = loopsOk ls := by
        unfold loopsOk
        rw [decide_eq_true (show 1 ≤ ls.length by omega), decide_eq_true (show ls.length ≤ 3 by omega), List.all_map]
        rfl
      rw [e]
      exact k _ (s1.trans s2)
theorem ok_check_boxes (T : Txt K mg) : FnOk P w K mg base (L2N.CX P w) 3 T.a_check_boxes T.d_check_boxes ["boxes"] (sp_check_boxes K T.CB) := by
  refine Hw.okC T.F_check_boxes sc_check_boxes (fun vs H Q E h => ?_) (fun cdv A outer s H vs Q E hr h => ?_)
  · obtain ⟨p, xs, bs, rfl, _⟩ := h
    rfl
  · obtain ⟨p, xs, bs, rfl, hS, hd, hl, hz, k, er⟩ := h
    have el := boxes_len hd
    refine ⟨_, (pss_cons (ps_if (pt_not (pt_val (pe_callB (cr_all rfl) (by rfl) T.z_all (by decide +kernel) (pa_cons (pe_lc (own := [("box", 1)]) (g := gName 1) (tt := tYes) rfl sc_check_boxes.nd (pi_list (pv 0)) (blkOk_by (own := [("box", 1)]) (N := nm_check_boxes) (sc := (defScope s_check_boxes)) (by decide +kernel)) (fun _ _ _ _ _ => pg_name (i := 1) sc_check_boxes.nd rfl (Or.inl rfl)) (fun _ _ _ _ _ => pts_nil) (fun _ _ _ _ _ => (pe_and (pe_call (ok_is_sequence T) (hr.mono (by decide)) (by rfl) T.g_is_sequence T.F_is_sequence.kp T.b_is_sequence .nil pass0 (pa_cons (pv 1) pa_nil)) (pe_one (pe_cmpR op_eq (pe_callB (show CallR _ _ (Kx.rLen K) from call_len_seq) (by rfl) T.z_len PySem.boot_len (pa_cons (pv 1) pa_nil)) pe_int (nomark _)))))) pa_nil))))
        (pss_one (ps_raiseLowB rfl T.lowB hr (L2N.takes_of rfl rfl rfl rfl) (by exact (pa_cons pe_str pa_nil))))
        pss_nil)
      (pss_cons (ps_if (pt_not (pt_val (pe_callB (cr_all rfl) (by rfl) T.z_all (by decide +kernel) (pa_cons (pe_lc (own := [("number", 2), ("_", 3)]) (g := gTup K 2 (gCons (gName 2) (gCons (gName 3) (gNil)))) (tt := tYes) rfl sc_check_boxes.nd (pi_list (pv 0)) (blkOk_by (own := [("number", 2), ("_", 3)]) (N := nm_check_boxes) (sc := (defScope s_check_boxes)) (by decide +kernel)) (fun _ _ _ _ _ => (pg_tup rfl (pgs_cons (pg_name (i := 2) sc_check_boxes.nd rfl (Or.inl rfl)) (pgs_cons (pg_name (i := 3) sc_check_boxes.nd rfl (Or.inl rfl)) pgs_nil)))) (fun _ _ _ _ _ => pts_nil) (fun _ _ _ _ _ => (pe_call (ok_is_number T) (hr.mono (by decide)) (by rfl) T.g_is_number T.F_is_number.kp T.b_is_number .nil pass0 (pa_cons (pv 2) pa_nil)))) pa_nil))))
        (pss_one (ps_raiseLowB rfl T.lowB hr (L2N.takes_of rfl rfl rfl rfl) (by exact (pa_cons pe_str pa_nil))))
        pss_nil)
      (pss_cons (ps_if (pt_not (pt_val (pe_callB (cr_all rfl) (by rfl) T.z_all (by decide +kernel) (pa_cons (pe_lc (own := [("_", 3), ("sort", 4)]) (g := gTup K 2 (gCons (gName 3) (gCons (gName 4) (gNil)))) (tt := tYes) rfl sc_check_boxes.nd (pi_list (pv 0)) (blkOk_by (own := [("_", 3), ("sort", 4)]) (N := nm_check_boxes) (sc := (defScope s_check_boxes)) (by decide +kernel)) (fun _ _ _ _ _ => (pg_tup rfl (pgs_cons (pg_name (i := 3) sc_check_boxes.nd rfl (Or.inl rfl)) (pgs_cons (pg_name (i := 4) sc_check_boxes.nd rfl (Or.inl rfl)) pgs_nil)))) (fun _ _ _ _ _ => pts_nil) (fun _ _ _ _ _ => (pe_call (ok_is_sort T) (hr.mono (by decide)) (by rfl) T.g_is_sort T.F_is_sort.kp T.b_is_sort .nil pass0 (pa_cons (pv 4) pa_nil)))) pa_nil))))
        (pss_one (ps_raiseLowB rfl T.lowB hr (L2N.takes_of rfl rfl rfl rfl) (by exact (pa_cons pe_str pa_nil))))
        pss_nil)
      (pss_one (ps_if (pt_val (pe_call (ok_has_double T) (hr.mono (by decide)) (by rfl) T.g_has_double T.F_has_double.kp T.b_has_double .nil pass0 (pa_cons (pv 0) pa_nil)))
        (pss_one (ps_raiseLowB rfl T.lowB hr (L2N.takes_of rfl rfl rfl rfl) (by exact (pa_cons pe_str pa_nil))))
        pss_nil))))), ?_⟩
    refine ⟨_, rfl, p, rfl, ⟨_, hS⟩, fun D hD => ?_⟩
    refine Lm.lc_map (K := K) walk_list (fun i y _ => (bs.map fun _ => V.bl true)[i]? = some y) (fun _ _ _ _ h _ => h) hD (by omega) (fun H' s => Hf.keepL s hS) (fun i x H' hi hx sm Q2 Z q => ?_) (fun H2 ys s2 hy ly hR => ?_)
    · obtain ⟨b, hb, a⟩ := boxes_at hd hx
      obtain ⟨q1, rfl, hq⟩ := box_inv (a.k (Kt.same sm))
      refine ⟨rfl, yesT ?_⟩
      refine ⟨_, rfl, q1, _, true, rfl, hq, fun H5 s5 => ⟨true, rfl, iteT ?_⟩⟩
      exact ⟨_, rfl, q1, _, rfl, .inr (sameT s5 hq), rfl, q _ _ s5 (by rw [List.getElem?_map, hb]; exact congrArg some (congrArg V.bl (decide_eq_true rfl).symm))⟩
    refine ⟨D, _, rfl, all_bools (f := fun _ => true) hy (by rw [ly, el]) hR, _, rfl, ?_⟩
    rw [all_map, show bs.all (fun _ => true) = true by simp]
    refine iteF ?_
    refine ⟨_, rfl, p, rfl, ⟨_, Hf.keepL s2 hS⟩, fun D3 hD3 => ?_⟩
    refine Lm.lc_map (K := K) walk_list (fun i y _ => (bs.map fun b => V.bl (numOk b.1))[i]? = some y) (fun _ _ _ _ h _ => h) hD3 (by omega) (fun H' s => Hf.keepL (s2.trans s) hS) (fun i x H' hi hx sm Q2 Z q => ?_) (fun H3 ys3 s3 hy3 ly3 hR3 => ?_)
    · obtain ⟨b, hb, a⟩ := boxes_at hd hx
      obtain ⟨q1, rfl, hq⟩ := box_inv (a.k (Kt.same (s2.trans sm)))
      have := hz b (List.mem_of_getElem? hb)
      refine ⟨q1, _, rfl, hq, rfl, _, _, rfl, _, _, rfl, rfl, rfl, yesT ?_⟩
      exact ⟨_, rfl, b.1, by omega, rfl, fun H5 s5 => q _ _ s5 (by rw [List.getElem?_map, hb]; rfl)⟩
    refine ⟨D3, _, rfl, all_bools (f := fun b => numOk b.1) hy3 (by rw [ly3, el]) hR3, _, rfl, ?_⟩
    rw [all_map]
    have s23 := s2.trans s3
    cases c1 : bs.all (fun b => numOk b.1) with
    | false => exact iteT ⟨_, rfl, fun dd hdd => er "number" (by unfold boxW; rw [if_pos c1]) _ dd (s23.trans (same_new hdd)) upd_same⟩
    | true =>
    refine iteF ?_
    refine ⟨_, rfl, p, rfl, ⟨_, Hf.keepL s23 hS⟩, fun D4 hD4 => ?_⟩
    refine Lm.lc_map (K := K) walk_list (fun i y _ => (bs.map fun b => V.bl (sortOk b.2))[i]? = some y) (fun _ _ _ _ h _ => h) hD4 (by omega) (fun H' s => Hf.keepL (s23.trans s) hS) (fun i x H' hi hx sm Q2 Z q => ?_) (fun H4 ys4 s4 hy4 ly4 hR4 => ?_)
    · obtain ⟨b, hb, a⟩ := boxes_at hd hx
      obtain ⟨q1, rfl, hq⟩ := box_inv (a.k (Kt.same (s23.trans sm)))
      refine ⟨q1, _, rfl, hq, rfl, _, _, rfl, _, _, rfl, rfl, rfl, yesT ?_⟩
      exact ⟨_, rfl, b.2, rfl, fun H5 s5 => q _ _ s5 (by rw [List.getElem?_map, hb]; rfl)⟩
    refine ⟨D4, _, rfl, all_bools (f := fun b => sortOk b.2) hy4 (by rw [ly4, el]) hR4, _, rfl, ?_⟩
    rw [all_map]
    have s24 := s23.trans s4
    have n1 : ¬ (bs.all (fun b => numOk b.1) = false) := by rw [c1]; decide
    cases c2 : bs.all (fun b => sortOk b.2) with
    | false => exact iteT ⟨_, rfl, fun dd hdd => er "sort" (by unfold boxW; rw [if_neg n1, if_pos c2]) _ dd (s24.trans (same_new hdd)) upd_same⟩
    | true =>
    refine iteF ?_
    have n2 : ¬ (bs.all (fun b => sortOk b.2) = false) := by rw [c2]; decide
    refine ⟨_, rfl, p, xs, bs, rfl, Hf.keepL s24 hS, hd.k (Kt.same s24), hl, fun H5 s5 => ⟨_, rfl, ?_⟩⟩
    cases c3 : dbl bs with
    | true => exact iteT ⟨_, rfl, fun dd hdd => er "double" (by unfold boxW; rw [if_neg n1, if_neg n2, if_pos c3]) _ dd ((s24.trans s5).trans (same_new hdd)) upd_same⟩
    | false => exact iteF (k (by unfold boxW; rw [if_neg n1, if_neg n2, if_neg (by rw [c3]; decide)]) _ (s24.trans s5))
end
end K10

namespace K10
open PySem L2 Wm TL Dv De
section
variable {P : Program} {w : World} {K : PySem.W.Frag} {mg : Str → Option Value} {base : Heap}
theorem loops_bnd {ls : List (List Bx)} (h : loopsOk ls = true) : ls.length ≤ 3 ∧ ∀ l ∈ ls, l.length ≤ 10 := by
  unfold loopsOk at h
  rw [Bool.and_eq_true, Bool.and_eq_true] at h
  exact ⟨of_decide_eq_true h.1.2, fun l m => by
    have z := List.all_eq_true.mp h.2 l m
    rw [Bool.and_eq_true] at z
    exact of_decide_eq_true z.2⟩
theorem flat_succ {α : Type} {ls : List (List α)} {l : List α} {i : Nat} (h : ls[i]? = some l) : (ls.take (i + 1)).flatten = (ls.take i).flatten ++ l := by
  rw [List.take_add_one, h, List.flatten_append]
  simp
theorem flat_le {α : Type} : ∀ (ls : List (List α)) (i : Nat), (∀ l ∈ ls, l.length ≤ 10) → (ls.take i).flatten.length ≤ 10 * i
  | [], i, _ => by simp
  | l :: ls, 0, _ => by simp
  | l :: ls, i + 1, h => by
    have ih := flat_le ls i fun m q => h m (List.mem_cons_of_mem _ q)
    have hl := h l (by simp)
    rw [List.take_succ_cons, List.flatten_cons, List.length_append]
    omega
theorem ok_check_town (T : Txt K mg) : FnOk P w K mg base (L2N.CX P w) 4 T.a_check_town T.d_check_town ["loops", "rounds", "hear"] (sp_check_town K T.CB) := by
  refine Hw.okC T.F_check_town sc_check_town (fun vs H Q E h => ?_) (fun cdv A outer s H vs Q E hr h => ?_)
  · obtain ⟨p, ls, r, h, rfl, _⟩ := h
    rfl
  · obtain ⟨p, ls, r, h, rfl, hL, hz, k, er⟩ := h
    obtain ⟨xs, hp, el, ha⟩ := id hL
    obtain ⟨z1, z2, z3⟩ := id hz
    refine ⟨_, (pss_cons (ps_if (pt_not (pt_val (pe_call (ok_are_loops T) (hr.mono (by decide)) (by rfl) T.g_are_loops T.F_are_loops.kp T.b_are_loops .nil pass0 (pa_cons (pv 0) pa_nil))))
        (pss_one (ps_raiseLowB rfl T.lowB hr (L2N.takes_of rfl rfl rfl rfl) (by exact (pa_cons pe_str pa_nil))))
        pss_nil)
      (pss_cons (ps_expr (pe_callS (ok_check_boxes T) (hr.mono (by decide)) rfl T.g_check_boxes T.F_check_boxes.kp T.b_check_boxes (fun σ => L2N.passAt (L2N.takes_of rfl rfl rfl rfl) σ) (by exact (pa_cons (pe_lc2 (own := [("loop", 3), ("box", 4)]) (g := gName 3) (tt := tYes) (g1 := gName 4) (tt1 := tYes) (vs1 := [4]) rfl sc_check_town.nd (pi_list (pv 0)) (blkOk_by (own := [("loop", 3), ("box", 4)]) (N := nm_check_town) (sc := (defScope s_check_town)) (by decide +kernel)) (by decide) (fun _ _ _ _ _ => pg_name (i := 3) sc_check_town.nd rfl (Or.inl rfl)) (fun _ _ _ _ _ => pts_nil) (fun _ _ _ _ _ => (show PI _ _ _ (iList K (tVar 3)) from (pi_list (pv 3)))) (fun _ _ _ _ _ => pg_name (i := 4) sc_check_town.nd rfl (Or.inl rfl)) (fun _ _ _ _ _ => pts_nil) (fun _ _ _ _ _ => (pv 4))) pa_nil))))
      (pss_cons (ps_if (pt_not (pt_val (pe_call (ok_is_whole_within T) (hr.mono (by decide)) (by rfl) T.g_is_whole_within T.F_is_whole_within.kp T.b_is_whole_within .nil pass0 (pa_cons (pv 1) (pa_cons pe_int (pa_cons (pe_glob (v := V.int 8) rfl T.c_MOST_ROUNDS ⟨_, rfl⟩) pa_nil))))))
        (pss_one (ps_raiseLowB rfl T.lowB hr (L2N.takes_of rfl rfl rfl rfl) (by exact (pa_cons pe_str pa_nil))))
        pss_nil)
      (pss_one (ps_if (PW.pt (pw_or (pt_not (pt_val (pe_call (ok_is_whole_within T) (hr.mono (by decide)) (by rfl) T.g_is_whole_within T.F_is_whole_within.kp T.b_is_whole_within .nil pass0 (pa_cons (pv 2) (pa_cons pe_int (pa_cons pe_int pa_nil)))))) (pw_or1 (pt_cmpR op_gt (pv 2) (pv 1) (nomark _)))))
        (pss_one (ps_raiseLowB rfl T.lowB hr (L2N.takes_of rfl rfl rfl rfl) (by exact (pa_cons pe_str pa_nil))))
        pss_nil))))), ?_⟩
    refine ⟨_, rfl, p, ls, rfl, hL, hz, fun H1 s1 => ⟨_, rfl, ?_⟩⟩
    cases c1 : loopsOk ls with
    | false => exact iteT ⟨_, rfl, fun dd hdd => er "loops" (by unfold townW loopW; rw [if_pos c1]) _ dd (s1.trans (same_new hdd)) upd_same⟩
    | true =>
    refine iteF ?_
    have bnd := loops_bnd c1
    have n1 : ¬ (loopsOk ls = false) := by rw [c1]; decide
    have eW : townW ls r h = match boxW ls.flatten with | some w => some w | none => ruleW r h := by
      unfold townW loopW
      rw [if_neg n1]
      try (cases boxW ls.flatten <;> rfl)
    rw [eW] at k er
    refine ⟨_, rfl, p, rfl, ⟨_, SqL.of (s1 _ _ hp)⟩, fun D hD => ?_⟩
    refine Et.out_it walk_list (fun i H' => Same H1 H' ∧ ∃ ys, H' D = some (.lst ys) ∧ Dts K H' ys ((ls.take i).flatten.map bxD)) ⟨same_new hD, [], upd_same, .nil⟩ (fun i H' _ h => SqL.of (h.1 _ _ (s1 _ _ hp))) (fun i x H7 H' hi hP hY => ?_) (fun H7 hP => ?_)
    · obtain ⟨sm, ys, hy, hds⟩ := hP
      obtain ⟨rfl, hx⟩ := hY
      obtain ⟨l, q1, zs, hl, rfl, hq, lz, hz'⟩ := lps_at ha hx
      have b2 := bnd.2 l (List.mem_of_getElem? hl)
      have fl := flat_le ls i bnd.2
      have hq7 := sm _ _ (s1 _ _ hq)
      refine ⟨rfl, yesT ?_⟩
      refine ⟨_, rfl, q1, rfl, ⟨_, SqL.of hq7⟩, ?_⟩
      refine Et.in_it walk_list (fun j H3 => Same H1 H3 ∧ ∃ ys, H3 D = some (.lst ys) ∧ Dts K H3 ys (((ls.take i).flatten ++ l.take j).map bxD)) ⟨sm, ys, hy, by simpa using hds⟩ (fun j H3 _ h => SqL.of (h.1 _ _ (s1 _ _ hq))) (fun j x H3 H4 hj hP hY => ?_) (fun H3 hP => ?_)
      · obtain ⟨sm3, ys3, hy3, hds3⟩ := hP
        obtain ⟨rfl, hx3⟩ := hY
        obtain ⟨b, hb, a3⟩ := boxes_at hz' hx3
        have a4 := a3.k (Kt.same (s1.trans sm3))
        have l3 : ys3.length ≤ 100 := by
          have e := boxes_len hds3
          rw [List.length_append, List.length_take] at e
          omega
        refine ⟨rfl, yesT ?_⟩
        refine ⟨_, rfl, ys3, hy3, small_lt (by omega), same_mut sm3 hD, ys3 ++ [x], upd_same, ?_⟩
        have kt : Kt K H4 (upd H4 D (.lst (ys3 ++ [x]))) := Kt.lst hy3
        rw [List.take_add_one, hb, ← List.append_assoc, List.map_append]
        exact (hds3.k kt).app (.cons (a4.k kt) .nil)
      · obtain ⟨sm3, ys3, hy3, hds3⟩ := hP
        refine ⟨sm3, ys3, hy3, ?_⟩
        rw [lz, List.take_length] at hds3
        rw [flat_succ hl]
        exact hds3
    obtain ⟨sm7, ys7, hy7, hds7⟩ := hP
    rw [el, List.take_length] at hds7
    have s7 := s1.trans sm7
    have lf : ls.flatten.length ≤ 100 := by
      have := flat_le ls ls.length bnd.2
      rw [List.take_length] at this
      have := bnd.1
      omega
    refine ⟨D, ys7, ls.flatten, rfl, SqL.of hy7, hds7, lf, fun b mb => ?_, fun cn H8 s8 => ?_, fun wd cn => ?_⟩
    · obtain ⟨l, ml, mb⟩ := List.mem_flatten.mp mb
      exact (z3 l ml b mb).1
    · rw [cn] at k er
      refine ⟨_, rfl, r, 1, 8, rfl, _, rfl, ?_⟩
      by_cases d1 : 1 ≤ r ∧ r ≤ 8
      case neg =>
        rw [decide_eq_false d1]
        exact iteT ⟨_, rfl, fun dd hdd => er "rounds" (by unfold ruleW; rw [if_neg d1]) _ dd ((s7.trans s8).trans (same_new hdd)) upd_same⟩
      rw [decide_eq_true d1]
      refine iteF ?_
      refine ⟨_, rfl, h, 1, 2, rfl, _, rfl, ?_⟩
      by_cases d2 : 1 ≤ h ∧ h ≤ 2
      case neg =>
        rw [decide_eq_false d2]
        refine iteT (iteT ?_)
        exact ⟨_, rfl, fun dd hdd => er "hear" (by unfold ruleW; rw [if_pos d1, if_neg (fun z => d2 z.1)]) _ dd ((s7.trans s8).trans (same_new hdd)) upd_same⟩
      rw [decide_eq_true d2]
      refine iteF ?_
      refine ⟨_, rfl, _, rfl, _, _, rfl, rfl, _, rfl, ?_⟩
      by_cases d3 : h > r
      · rw [decide_eq_true d3]
        exact iteT ⟨_, rfl, fun dd hdd => er "hear" (by unfold ruleW; rw [if_pos d1, if_neg (fun z => z.2 d3)]) _ dd ((s7.trans s8).trans (same_new hdd)) upd_same⟩
      · rw [decide_eq_false d3]
        exact iteF (k (by unfold ruleW; rw [if_pos d1, if_pos ⟨d2, d3⟩]) _ (s7.trans s8))
    · rw [cn] at er
      exact (er wd rfl).after s7
end
end K10

namespace K10
open PySem L2 Wm TL Dv De
section
variable {P : Program} {w : World} {K : PySem.W.Frag} {mg : Str → Option Value} {base : Heap}
theorem dts_of {H : Hp} {ys : List V} {ds : List PyData} (l : ys.length = ds.length) (h : ∀ (i : Nat) y, ys[i]? = some y → ∃ d, ds[i]? = some d ∧ Dt K H y d) : Dts K H ys ds := by
  induction ds generalizing ys with
  | nil =>
    rw [List.eq_nil_of_length_eq_zero l]
    exact .nil
  | cons d ds ih =>
    cases ys with
    | nil => cases l
    | cons y ys =>
      refine .cons ?_ (ih (by simpa using l) fun i z hz => ?_)
      · obtain ⟨e, he, a⟩ := h 0 y rfl
        cases he
        exact a
      · obtain ⟨e, he, a⟩ := h (i + 1) z (by simpa using hz)
        exact ⟨e, by simpa using he, a⟩
theorem dts_nums {H : Hp} : ∀ l : List Bx, Dts K H (l.map (fun b => V.str b.1)) (l.map numD)
  | [] => .nil
  | b :: l => .cons (.str _) (dts_nums l)
theorem putF_len (f : Str) (v : V) : ∀ fs : List (Str × V), (putF f v fs).length ≤ fs.length + 1
  | [] => by simp [putF]
  | (g, x) :: r => by
    have ih := putF_len f v r
    unfold putF
    split
    · simp
    · simp only [List.length_cons]
      omega
/-- what stands at another place than p -/
def Off (p : Addr) (H H' : Hp) : Prop := ∀ q o, q ≠ p → H q = some o → H' q = some o
theorem Off.trans {p : Addr} {H H1 H2 : Hp} (a : Off p H H1) (b : Off p H1 H2) : Off p H H2 := fun q o n h => b q o n (a q o n h)
theorem Off.of {p : Addr} {H H' : Hp} (s : Same H H') : Off p H H' := fun q o _ h => s q o h
theorem Off.set {p : Addr} {H : Hp} {o : HO} : Off p H (upd H p o) := fun q u n h => by
  rw [upd_ne n]
  exact h
theorem kt_ins {H : Hp} {p C dx : Addr} {fs : List (Str × V)} {o : HO} (h : H p = some (.ins C dx fs)) : Kt K H (upd H p o) := Kt.set h (fun _ q => by cases q) (fun _ _ q => by cases q)
theorem ok_init (T : Txt K mg) : FnOk P w K mg base (L2N.CX P w) 5 T.a_init T.d_init ["self", "loops", "rounds", "hear"] (sp_init K T.C T.CB) := by
  refine T.F_init.ok sc_init (fun vs H Q E h => ?_) (fun cdv A outer s H vs Q E hr h => ?_)
  · obtain ⟨p, q, dx, ls, r, h, rfl, _⟩ := h
    rfl
  · obtain ⟨p, a, dx, ls, r, h, rfl, hp, hx, hz, kk, er⟩ := h
    have z3 := hz.2.2
    refine ⟨_, (pss_cons (ps_expr (pe_callS (ok_check_town T) (hr.mono (by decide)) rfl T.g_check_town T.F_check_town.kp T.b_check_town (fun σ => L2N.passAt (L2N.takes_of rfl rfl rfl rfl) σ) (by exact (pa_cons (pv 1) (pa_cons (pv 2) (pa_cons (pv 3) pa_nil))))))
      (pss_cons (ps_fld (pv 0) (pe_callTy call_tuple_of (by rfl) T.z_tuple (by decide +kernel) (pa_cons (pe_lc (own := [("loop", 4)]) (g := gName 4) (tt := tYes) rfl sc_init.nd (pi_list (pv 1)) (blkOk_by (own := [("loop", 4)]) (N := nm_init) (sc := (defScope s_init)) (by decide +kernel)) (fun _ _ _ _ _ => pg_name (i := 4) sc_init.nd rfl (Or.inl rfl)) (fun _ _ _ _ _ => pts_nil) (fun _ _ _ _ _ => (pe_callTy (show CallR _ _ (Kx.rTupOf K) from call_tuple_of) (by rfl) T.z_tuple (by decide +kernel) (pa_cons (pe_lc (own := [("box", 5)]) (g := gName 5) (tt := tYes) rfl sc_init.nd (show PI _ _ _ (iList K (tVar 4)) from (pi_list (pv 4))) (blkOk_by (own := [("box", 5)]) (N := nm_init) (sc := ({ kind := .function, names := [(".0", .local), ("loop", .local), ("tuple", .globalImplicit)], isGenerator := false, isCoroutine := false } : Scope)) (by decide +kernel)) (fun _ _ _ _ _ => pg_name (i := 5) sc_init.nd rfl (Or.inl rfl)) (fun _ _ _ _ _ => pts_nil) (fun _ _ _ _ _ => (pe_callTy (show CallR _ _ (Kx.rTup K) from call_tupleT) (by rfl) T.z_tuple (by decide +kernel) (pa_cons (pv 5) pa_nil)))) pa_nil)))) pa_nil)) rfl)
      (pss_cons (ps_fld (pv 0) (pv 2) rfl)
      (pss_cons (ps_fld (pv 0) (pv 3) rfl)
      (pss_one (ps_fld (pv 0) (pe_callTy call_tuple_of (by rfl) T.z_tuple (by decide +kernel) (pa_cons (pe_lc2 (own := [("loop", 4), ("number", 6), ("_", 7)]) (g := gName 4) (tt := tYes) (g1 := gTup K 2 (gCons (gName 6) (gCons (gName 7) (gNil)))) (tt1 := tYes) (vs1 := [6, 7]) rfl sc_init.nd (pi_tup (pe_fld (pv 0) rfl)) (blkOk_by (own := [("loop", 4), ("number", 6), ("_", 7)]) (N := nm_init) (sc := (defScope s_init)) (by decide +kernel)) (by decide) (fun _ _ _ _ _ => pg_name (i := 4) sc_init.nd rfl (Or.inl rfl)) (fun _ _ _ _ _ => pts_nil) (fun _ _ _ _ _ => (show PI _ _ _ (iTup K (tVar 4)) from (pi_tup (pv 4)))) (fun _ _ _ _ _ => (pg_tup rfl (pgs_cons (pg_name (i := 6) sc_init.nd rfl (Or.inl rfl)) (pgs_cons (pg_name (i := 7) sc_init.nd rfl (Or.inl rfl)) pgs_nil)))) (fun _ _ _ _ _ => pts_nil) (fun _ _ _ _ _ => (pv 6))) pa_nil)) rfl)))))), ?_⟩
    refine ⟨_, rfl, _, rfl, _, rfl, a, ls, r, h, rfl, hx, hz, fun cn H1 s1 => ?_, fun wd cn => er wd cn⟩
    have k := kk cn
    have lok : loopsOk ls = true := by
      cases c : loopsOk ls with
      | true => rfl
      | false =>
        unfold townW loopW at cn
        rw [if_pos c] at cn
        cases cn
    have bnd := loops_bnd lok
    obtain ⟨xs, ha0, el, ha⟩ := hx.k s1
    refine ⟨_, rfl, a, rfl, ⟨_, SqL.of ha0⟩, fun D hD => ?_⟩
    refine Lm.lc_map (K := K) walk_list (fun i y H' => ∃ d, (ls.map lpD)[i]? = some d ∧ Dt K H' y d) (fun _ _ _ _ ⟨d, e, t⟩ kt => ⟨d, e, t.k kt⟩) hD (by omega) (fun H' s => SqL.of (s _ _ ha0)) (fun i x H' hi hx2 sm Q2 Z q => ?_) (fun H2 ys s2 hy ly hR => ?_)
    · obtain ⟨l, hl, t⟩ := ha i x hx2
      have hd2 : (ls.map lpD)[i]? = some (lpD l) := by rw [List.getElem?_map, hl]; rfl
      obtain ⟨q1, zs, rfl, hq, hz⟩ := t.k sm
      have lz := boxes_len hz
      have b2 := bnd.2 l (List.mem_of_getElem? hl)
      refine ⟨rfl, yesT ?_⟩
      refine ⟨_, rfl, q1, rfl, ⟨_, SqL.of hq⟩, fun D2 hD2 => ?_⟩
      refine Lm.lc_map (K := K) walk_list (fun i y H' => ∃ d, (l.map bxD)[i]? = some d ∧ Dt K H' y d) (fun _ _ _ _ ⟨d, e, t⟩ kt => ⟨d, e, t.k kt⟩) hD2 (by omega) (fun H' s => SqL.of (s _ _ hq)) (fun j x H3 hj hx3 sm3 Q3 Z3 q3 => ?_) (fun H3 zs3 s3 hy3 ly3 hR3 => ?_)
      · obtain ⟨b, hb, t3⟩ := boxes_at hz hx3
        have t4 := t3.k (Kt.same sm3)
        obtain ⟨q2, rfl, hq2⟩ := box_inv t4
        refine ⟨rfl, yesT ?_⟩
        exact ⟨_, rfl, q2, _, rfl, hq2, q3 _ _ (Same.refl _) ⟨bxD b, by rw [List.getElem?_map, hb]; rfl, t4⟩⟩
      · refine ⟨D2, zs3, rfl, .inl ⟨SqL.of hy3, fun l2 hl2 => ?_⟩⟩
        have kt := Kt.new (K := K) (o := .tup zs3) hl2
        refine q _ _ (s3.trans (same_new hl2)) ⟨_, hd2, dt_tup upd_same ?_⟩
        exact (dts_of (by rw [ly3, lz, List.length_map]) hR3).k kt
    have hds := dts_of (by rw [ly, el, List.length_map]) hR
    refine ⟨D, ys, rfl, .inl ⟨SqL.of hy, fun lp hlp => ?_⟩⟩
    have s3 : Same H (upd H2 lp (.tup ys)) := (s1.trans s2).trans (same_new hlp)
    have hloops : Dt K (upd H2 lp (.tup ys)) (.ref lp) (townD ls) := dt_tup upd_same (hds.k (Kt.new hlp))
    generalize upd H2 lp (.tup ys) = H3 at *
    have hp3 := s3 _ _ hp
    refine ⟨_, rfl, p, T.C, dx, _, rfl, hp3, T.clC, T.nL, by show 0 < 1000; decide, ?_⟩
    have hp4 : upd H3 p (.ins T.C dx (putF "loops" (.ref lp) [])) p = some (.ins T.C dx (putF "loops" (.ref lp) [])) := upd_same
    have lf1 := putF_len "loops" (.ref lp) []
    refine ⟨_, rfl, _, rfl, p, T.C, dx, _, rfl, hp4, T.clC, T.nR, by simp only [List.length_nil] at lf1; omega, ?_⟩
    have lf2 := putF_len "rounds" (.int r) (putF "loops" (.ref lp) [])
    refine ⟨_, rfl, _, rfl, p, T.C, dx, _, rfl, upd_same, T.clC, T.nH, by simp only [List.length_nil] at lf1; omega, ?_⟩
    have lf3 := putF_len "hear" (.int h) (putF "rounds" (.int r) (putF "loops" (.ref lp) []))
    have k4 : Kt K H3 (upd H3 p (.ins T.C dx (putF "loops" (.ref lp) []))) := kt_ins hp3
    have k5 := k4.trans (kt_ins (o := .ins T.C dx (putF "rounds" (.int r) (putF "loops" (.ref lp) []))) hp4)
    have k6 := k5.trans (kt_ins (o := .ins T.C dx (putF "hear" (.int h) (putF "rounds" (.int r) (putF "loops" (.ref lp) [])))) upd_same)
    have o6 : Off p H (upd (upd (upd H3 p (.ins T.C dx (putF "loops" (.ref lp) []))) p (.ins T.C dx (putF "rounds" (.int r) (putF "loops" (.ref lp) [])))) p (.ins T.C dx (putF "hear" (.int h) (putF "rounds" (.int r) (putF "loops" (.ref lp) []))))) := (((Off.of s3).trans Off.set).trans Off.set).trans Off.set
    have hp6 : upd (upd (upd H3 p (.ins T.C dx (putF "loops" (.ref lp) []))) p (.ins T.C dx (putF "rounds" (.int r) (putF "loops" (.ref lp) [])))) p (.ins T.C dx (putF "hear" (.int h) (putF "rounds" (.int r) (putF "loops" (.ref lp) [])))) p = some (.ins T.C dx (putF "hear" (.int h) (putF "rounds" (.int r) (putF "loops" (.ref lp) [])))) := upd_same
    have hl6 := hloops.k k6
    have e1 : ¬ ("loops" : Str) = "rounds" := by decide +kernel
    have e2 : ¬ ("loops" : Str) = "hear" := by decide +kernel
    have e3 : ¬ ("loops" : Str) = "numbers" := by decide +kernel
    have e4 : ¬ ("rounds" : Str) = "hear" := by decide +kernel
    have e5 : ¬ ("rounds" : Str) = "numbers" := by decide +kernel
    have e6 : ¬ ("hear" : Str) = "numbers" := by decide +kernel
    have lk : (putF "hear" (.int h) (putF "rounds" (.int r) (putF "loops" (.ref lp) []))).lookup ("loops" : Str) = some (.ref lp) := by
      rw [lookup_putF, if_neg e2, lookup_putF, if_neg e1, lookup_putF, if_pos rfl]
    have lr : (putF "hear" (.int h) (putF "rounds" (.int r) (putF "loops" (.ref lp) []))).lookup ("rounds" : Str) = some (.int r) := by
      rw [lookup_putF, if_neg e4, lookup_putF, if_pos rfl]
    have lh : (putF "hear" (.int h) (putF "rounds" (.int r) (putF "loops" (.ref lp) []))).lookup ("hear" : Str) = some (.int h) := by
      rw [lookup_putF, if_pos rfl]
    have lw : ∀ m : Str, m ≠ "loops" → m ≠ "rounds" → m ≠ "hear" → (putF "hear" (.int h) (putF "rounds" (.int r) (putF "loops" (.ref lp) []))).lookup m = none := fun m w0 w1 w2 => by
      rw [lookup_putF, if_neg w2, lookup_putF, if_neg w1, lookup_putF, if_neg w0]
      rfl
    have lf : (putF "hear" (.int h) (putF "rounds" (.int r) (putF "loops" (.ref lp) []))).length ≤ 3 := by simp only [List.length_nil] at lf1; omega
    generalize (putF "hear" (.int h) (putF "rounds" (.int r) (putF "loops" (.ref lp) []))) = fs at *
    generalize upd (upd (upd H3 p (.ins T.C dx (putF "loops" (.ref lp) []))) p (.ins T.C dx (putF "rounds" (.int r) (putF "loops" (.ref lp) [])))) p (.ins T.C dx fs) = H6 at *
    obtain ⟨a6, xs6, e6, hS6, hd6⟩ := hl6.inv
    cases e6
    have el6 : xs6.length = ls.length := by rw [hd6.len, List.length_map]
    refine ⟨_, rfl, p, T.C, dx, _, _, rfl, hp6, T.clC, T.nL, lk, lp, rfl, ⟨_, hS6⟩, fun D7 hD7 => ?_⟩
    refine Et.out_it walk_tup (fun i H' => Same H6 H' ∧ ∃ ys, H' D7 = some (.lst ys) ∧ ys = (ls.take i).flatten.map (fun b => V.str b.1)) ⟨same_new hD7, [], upd_same, by simp⟩ (fun i H' _ h => sameT h.1 hS6) (fun i x H7 H' hi hP hY => ?_) (fun H7 hP => ?_)
    · obtain ⟨sm, ys, hy, hys⟩ := hP
      obtain ⟨rfl, hx2⟩ := hY
      obtain ⟨d, hd2, t⟩ := hd6.at hx2
      rw [List.getElem?_map] at hd2
      obtain ⟨l, hl, rfl⟩ := Option.map_eq_some_iff.mp hd2
      obtain ⟨q1, zs, rfl, hq, hz⟩ := (t.k (Kt.same sm)).inv
      have lz := boxes_len hz
      have b2 := bnd.2 l (List.mem_of_getElem? hl)
      have fl := flat_le ls i bnd.2
      refine ⟨rfl, yesT ?_⟩
      refine ⟨_, rfl, q1, rfl, ⟨_, hq⟩, ?_⟩
      refine Et.in_it walk_tup (fun j H3 => Same H6 H3 ∧ ∃ ys, H3 D7 = some (.lst ys) ∧ ys = ((ls.take i).flatten ++ l.take j).map (fun b => V.str b.1) ∧ Kt K H' H3) ⟨sm, ys, hy, by simpa using hys, Kt.refl⟩ (fun j H3 _ h => let ⟨_, _, _, _, t⟩ := h; t _ _ hq) (fun j x H3 H4 hj hP hY => ?_) (fun H3 hP => ?_)
      · obtain ⟨sm3, ys3, hy3, hys3, kt⟩ := hP
        obtain ⟨rfl, hx3⟩ := hY
        obtain ⟨b, hb, a3⟩ := boxes_at hz hx3
        obtain ⟨q2, rfl, hq2⟩ := box_inv (a3.k kt)
        have l3 : ys3.length ≤ 100 := by rw [hys3, List.length_map, List.length_append, List.length_take]; omega
        have k5 : Kt K H4 (upd H4 D7 (.lst (ys3 ++ [.str b.1]))) := Kt.lst hy3
        refine ⟨q2, _, rfl, hq2, rfl, _, _, rfl, _, _, rfl, rfl, rfl, yesT ?_⟩
        refine ⟨_, rfl, ys3, hy3, small1000 (by omega), same_mut sm3 hD7, ys3 ++ [.str b.1], upd_same, ?_, kt.trans k5⟩
        rw [List.take_add_one, hb, ← List.append_assoc, List.map_append, hys3]
        rfl
      · obtain ⟨sm3, ys3, hy3, hys3, kt⟩ := hP
        refine ⟨sm3, ys3, hy3, ?_⟩
        rw [lz, List.take_length] at hys3
        rw [flat_succ hl]
        exact hys3
    obtain ⟨sm7, ys7, hy7, hys7⟩ := hP
    rw [el6, List.take_length] at hys7
    refine ⟨D7, ys7, rfl, .inl ⟨SqL.of hy7, fun l8 hl8 => ?_⟩⟩
    have s8 : Same H6 (upd H7 l8 (.tup ys7)) := sm7.trans (same_new hl8)
    have t8 : Dt K (upd H7 l8 (.tup ys7)) (.ref l8) (.tuple (ls.flatten.map numD)) := by
      refine dt_tup upd_same ?_
      rw [hys7]
      exact dts_nums _
    refine ⟨_, rfl, p, T.C, dx, _, rfl, s8 _ _ hp6, T.clC, T.nN, by omega, ?_⟩
    have k9 := kt_ins (K := K) (o := .ins T.C dx (putF "numbers" (.ref l8) fs)) (s8 _ _ hp6)
    refine k _ ((o6.trans (Off.of s8)).trans Off.set) ⟨dx, _, .ref lp, .ref l8, upd_same, ?_, ?_, ?_, ?_, fun m m0 m1 m2 m3 => ?_, (hl6.k (Kt.same s8)).k k9, t8.k k9⟩
    · rw [lookup_putF, if_neg e3]
      exact lk
    · rw [lookup_putF, if_neg e5]
      exact lr
    · rw [lookup_putF, if_neg e6]
      exact lh
    · rw [lookup_putF, if_pos rfl]
    · rw [lookup_putF, if_neg m3]
      exact lw m m0 m1 m2
theorem ok_eq (T : Txt K mg) : FnOk P w K mg base CX0 1 T.a_eq T.d_eq ["self", "other"] (sp_eq K T.C) := by
  refine T.F_eq.ok sc_eq (fun vs H Q E h => ?_) (fun cdv A outer s H vs Q E hr h => ?_)
  · obtain ⟨p, p2, ls, r, h, rfl, _⟩ := h
    rfl
  · obtain ⟨p, p2, ls, r, h, rfl, hT, hT2, sh, ev, k⟩ := h
    obtain ⟨dx, fs, z, z2, hp, l1, l2, l3, l4, l5, t, t2⟩ := id hT
    obtain ⟨dx', fs', z', z2', hp', m1, m2, m3, m4, m5, u, u2⟩ := id hT2
    refine ⟨_, (pss_one (ps_ret (pe_and (pe_callB call_isi (by rfl) T.z_isinstance (by decide +kernel) (pa_cons (pv 1) (pa_cons (pe_glob (v := V.ref T.C) rfl T.gC rfl) pa_nil))) (pe_and (pe_cmpR (op_eqD hr.units) (pe_fld (pv 0) rfl) (pe_fld (pv 1) rfl) (nomark _)) (pe_and (pe_cmpR op_eq (pe_fld (pv 0) rfl) (pe_fld (pv 1) rfl) (nomark _)) (pe_one (pe_cmpR op_eq (pe_fld (pv 0) rfl) (pe_fld (pv 1) rfl) (nomark _)))))))), ?_⟩
    refine ⟨_, rfl, _, _, _, _, true, rfl, .own T.C, .base (.ins hp' T.clC T.isi.ca T.isi.cn T.isi.ct T.isi.cm), T.kS, true, rfl, iteT ?_⟩
    refine ⟨_, rfl, p, T.C, dx, fs, _, rfl, hp, T.clC, T.nL, l1, _, rfl, p2, T.C, dx', fs', _, rfl, hp', T.clC, T.nL, m1, _, _, t.toDp, u.toDp, sh, sh, _, rfl, ?_⟩
    rw [ev]
    refine iteT ?_
    refine ⟨_, rfl, p, T.C, dx, fs, _, rfl, hp, T.clC, T.nR, l2, _, rfl, p2, T.C, dx', fs', _, rfl, hp', T.clC, T.nR, m2, rfl, _, rfl, ?_⟩
    rw [decide_eq_true rfl]
    refine iteT ?_
    refine ⟨_, rfl, p, T.C, dx, fs, _, rfl, hp, T.clC, T.nH, l3, _, rfl, p2, T.C, dx', fs', _, rfl, hp', T.clC, T.nH, m3, rfl, ?_⟩
    rw [decide_eq_true rfl]
    exact k
end
end K10

namespace K10
open PySem L2 Wm TL Dv De
section
variable {P : Program} {w : World} {K : PySem.W.Frag} {mg : Str → Option Value} {base : Heap}
theorem first_hit : ∀ {bs : List Bool} {i : Nat}, bs[i]? = some true → (∀ b ∈ bs.take i, b = false) → bs.findIdx? id = some i
  | b :: bs, 0, h, _ => by
    have e : b = true := by simpa using h
    subst e
    simp [List.findIdx?_cons]
  | b :: bs, i + 1, h, a => by
    have e : b = false := a b (by simp)
    subst e
    have ih := first_hit (bs := bs) (i := i) (by simpa using h) fun c m => a c (by rw [List.take_succ_cons]; exact List.mem_cons_of_mem _ m)
    simp [List.findIdx?_cons, ih]
theorem first_no {bs : List Bool} (a : ∀ b ∈ bs, b = false) : bs.findIdx? id = none := List.findIdx?_eq_none_iff.mpr fun b m => by rw [a b m]; rfl
theorem okH_first_row (T : Txt K mg) : L2H.FnH P w K mg base CX0 1 T.a_first_row T.d_first_row ["faults"] (sp_first_row K) := by
  refine Hw.okH T.F_first_row sc_first_row (fun vs H Q E h => ?_) (fun cdv A outer s H vs Q E p0 hc hr h => ?_)
  · obtain ⟨p, bs, rfl, _⟩ := h
    rfl
  · obtain ⟨p, bs, rfl, hS, k⟩ := h
    refine ⟨_, (pss_cons (L2H.ps_forH PassesOwn.never hc (Hw.pi_enumH (by rfl) T.z_enumerate (pa_cons (pv 0) pa_nil)) (Hw.pg_tupH hc (pgs_cons (pg_name (i := 1) sc_first_row.nd rfl (Or.inl rfl)) (pgs_cons (pg_name (i := 2) sc_first_row.nd rfl (Or.inl rfl)) pgs_nil)))
        (pss_one (ps_if (pt_val (pv 2))
          (pss_one (ps_ret (pe_op op_add (pv 1) pe_int)))
          pss_nil)))
      (pss_one (ps_ret pe_int))), ?_⟩
    refine ⟨_, rfl, p, _, rfl, hS, ?_⟩
    refine for_it walk_enum (fun i σ H' => ∃ v1 v2, σ = [some (.ref p), v1, v2] ∧ Same H H' ∧ ∀ b ∈ bs.take i, b = false) ⟨none, none, rfl, Same.refl _, by simp⟩ (fun i σ H' _ h => let ⟨_, _, _, s, _⟩ := h; Hf.keepL s hS) (fun i v σ H1 H' hi hP hY => ?_) (fun σ H1 hP => ?_)
    · obtain ⟨v1, v2, rfl, sm, no⟩ := hP
      obtain ⟨tp, x1, x2, rfl, ht, rfl, e1, e2⟩ := hY
      cases e1
      have e3 : (bs.map V.bl)[i]? = some x2 := e2
      rw [List.getElem?_map] at e3
      obtain ⟨b, hb, rfl⟩ := Option.map_eq_some_iff.mp e3
      have sB : Same H (upd H1 tp (.tup [.int (i : Nat), V.bl b])) := sm.trans (same_new ht)
      refine ⟨tp, _, rfl, SqT.of upd_same, rfl, _, _, rfl, _, _, rfl, rfl, ?_⟩
      cases b with
      | true =>
        refine ⟨_, rfl, true, rfl, iteT ?_⟩
        refine ⟨_, rfl, _, _, rfl, rfl, ?_⟩
        have e : firstI bs = (i : Int) + 1 := by unfold firstI; rw [first_hit hb no]
        show Q (.int ((i : Int) + 1)) _
        rw [← e]
        exact k _ sB
      | false =>
        refine ⟨_, rfl, false, rfl, iteF ?_⟩
        refine ⟨_, _, rfl, sB, fun c m => ?_⟩
        rw [List.take_add_one, hb] at m
        rcases List.mem_append.mp m with m | m
        · exact no c m
        · simpa using m
    · obtain ⟨v1, v2, rfl, sm, no⟩ := hP
      rw [List.length_map, List.take_length] at no
      have e : firstI bs = 1 := by unfold firstI; rw [first_no no]
      show Q (.int 1) _
      rw [← e]
      exact k _ sm
theorem okH_is_loop_too_much (T : Txt K mg) : L2H.FnH P w K mg base CX0 1 T.a_is_loop_too_much T.d_is_loop_too_much ["index", "loop"] (sp_is_loop_too_much K) := by
  refine Hw.okH T.F_is_loop_too_much sc_is_loop_too_much (fun vs H Q E h => ?_) (fun cdv A outer s H vs Q E p0 hc hr h => ?_)
  · obtain ⟨i, q, ys, rfl, _⟩ := h
    rfl
  · obtain ⟨i, q, ys, rfl, hS, k⟩ := h
    refine ⟨_, (pss_one (ps_ret (pe_or (pe_cmpR op_gt (pe_callB call_len_seq (by rfl) T.z_len PySem.boot_len (pa_cons (pv 1) pa_nil)) (pe_glob (v := V.int 10) rfl T.c_MOST_BOXES ⟨_, rfl⟩) (nomark _)) (pe_one (pe_cmpR op_ge (pv 0) (pe_glob (v := V.int 3) rfl T.c_MOST_LOOPS ⟨_, rfl⟩) (nomark _)))))), ?_⟩
    refine ⟨_, rfl, q, _, rfl, .inl hS, _, _, rfl, rfl, ?_⟩
    by_cases c : ((ys.length : Nat) : Int) > 10
    · rw [decide_eq_true (show 10 < ys.length by omega)] at k
      have e : decide ((10 : Int) < ((ys.length : Nat) : Int)) = true := decide_eq_true c
      refine ⟨_, rfl, ?_⟩
      rw [e]
      exact iteT k
    · rw [decide_eq_false (show ¬ 10 < ys.length by omega), Bool.false_or] at k
      have e : decide ((10 : Int) < ((ys.length : Nat) : Int)) = false := decide_eq_false c
      refine ⟨_, rfl, ?_⟩
      rw [e]
      refine iteF ?_
      refine ⟨_, rfl, _, _, rfl, rfl, ?_⟩

      have e2 : decide ((3 : Int) ≤ (i : Nat)) = decide (3 ≤ i) := decide_eq_decide.mpr (by omega)
      show Q (.bl (decide ((3 : Int) ≤ (i : Nat)))) _
      rw [e2]
      exact k
theorem okH_has_double_up_to (T : Txt K mg) : L2H.FnH P w K mg base CX0 2 T.a_has_double_up_to T.d_has_double_up_to ["loops", "index"] (sp_has_double_up_to K) := by
  refine Hw.okH T.F_has_double_up_to sc_has_double_up_to (fun vs H Q E h => ?_) (fun cdv A outer s H vs Q E p0 hc hr h => ?_)
  · obtain ⟨p, ls, i, rfl, _⟩ := h
    rfl
  · obtain ⟨p, ls, i, rfl, hL, b1, b2, k⟩ := h
    obtain ⟨xs, hp, el, ha⟩ := hL
    refine ⟨_, (pss_one (ps_ret (L2H.pe_callH (okH_has_double T) (hr.mono (by decide)) hc (by rfl) T.g_has_double T.F_has_double.kp T.b_has_double Hw.passH (pa_cons (Hw.pe_lc2H (own := [("loop", 2), ("box", 3)]) (g := gName 2) (tt := tYes) (g1 := gName 3) (tt1 := tYes) (vs1 := [3]) hc sc_has_double_up_to.nd (Hw.pi_listH (pe_slice sl_list (pv 0) po_none (po_some (pe_op op_add (pv 1) pe_int)))) (blkOk_by (own := [("loop", 2), ("box", 3)]) (N := nm_has_double_up_to) (sc := (defScope s_has_double_up_to)) (by decide +kernel)) (by decide) (fun _ _ _ _ _ => pg_name (i := 2) sc_has_double_up_to.nd rfl (Or.inl rfl)) (fun _ _ _ _ _ => pts_nil) (fun _ _ _ _ _ => (show L2H.PIH _ _ _ (iList K (tVar 2)) from (Hw.pi_listH (pv 2)))) (fun _ _ _ _ _ => pg_name (i := 3) sc_has_double_up_to.nd rfl (Or.inl rfl)) (fun _ _ _ _ _ => pts_nil) (fun _ _ _ _ _ => (pv 3))) pa_nil)))), ?_⟩
    refine ⟨_, rfl, _, rfl, _, _, rfl, rfl, _, rfl, p, _, rfl, SqL.of hp, fun q hq => ?_⟩
    have ecut : cutV xs none (some ((i : Int) + 1)) = xs.take (i + 1) := by
      unfold cutV
      rw [HT.sIx_none, List.drop_zero, Nat.sub_zero, show ((i : Int) + 1) = ((i + 1 : Nat) : Int) by omega, HT.sIx_nat]
      rw [List.take_eq_take_iff]
      omega
    rw [ecut]
    have s1 := same_new (o := .lst (xs.take (i + 1))) hq
    have hq1 : upd H q (.lst (xs.take (i + 1))) q = some (.lst (xs.take (i + 1))) := upd_same
    generalize upd H q (.lst (xs.take (i + 1))) = H1 at *
    refine ⟨q, rfl, ⟨_, SqL.of hq1⟩, fun D hD => ?_⟩
    have ht : ∀ (j : Nat) v, (xs.take (i + 1))[j]? = some v → ∃ l, (ls.take (i + 1))[j]? = some l ∧ LpAt K H v l := by
      intro j v hv
      rw [List.getElem?_take] at hv
      by_cases c : j < i + 1
      · rw [if_pos c] at hv
        obtain ⟨l, hl, a⟩ := ha j v hv
        exact ⟨l, by rw [List.getElem?_take, if_pos c]; exact hl, a⟩
      · rw [if_neg c] at hv
        cases hv
    have et : (xs.take (i + 1)).length = (ls.take (i + 1)).length := by rw [List.length_take, List.length_take, el]
    have tb1 : (ls.take (i + 1)).length ≤ 3 := by rw [List.length_take]; omega
    have tb2 : ∀ l ∈ ls.take (i + 1), l.length ≤ 10 := fun l m => b2 l (List.mem_of_mem_take m)
    generalize xs.take (i + 1) = xt at *
    generalize ls.take (i + 1) = lt at *
    refine Et.out_it walk_list (fun i H' => Same H1 H' ∧ ∃ ys, H' D = some (.lst ys) ∧ Dts K H' ys ((lt.take i).flatten.map bxD)) ⟨same_new hD, [], upd_same, .nil⟩ (fun i H' _ h => SqL.of (h.1 _ _ hq1)) (fun i x H7 H' hi hP hY => ?_) (fun H7 hP => ?_)
    · obtain ⟨sm, ys, hy, hds⟩ := hP
      obtain ⟨rfl, hx⟩ := hY
      obtain ⟨l, q1, zs, hl, rfl, hq', lz, hz'⟩ := lps_at ht hx
      have b2' := tb2 l (List.mem_of_getElem? hl)
      have fl := flat_le lt i tb2
      refine ⟨rfl, yesT ?_⟩
      refine ⟨_, rfl, q1, rfl, ⟨_, SqL.of (sm _ _ (s1 _ _ hq'))⟩, ?_⟩
      refine Et.in_it walk_list (fun j H3 => Same H1 H3 ∧ ∃ ys, H3 D = some (.lst ys) ∧ Dts K H3 ys (((lt.take i).flatten ++ l.take j).map bxD)) ⟨sm, ys, hy, by simpa using hds⟩ (fun j H3 _ h => SqL.of (h.1 _ _ (s1 _ _ hq'))) (fun j x H3 H4 hj hP hY => ?_) (fun H3 hP => ?_)
      · obtain ⟨sm3, ys3, hy3, hds3⟩ := hP
        obtain ⟨rfl, hx3⟩ := hY
        obtain ⟨b, hb, a3⟩ := boxes_at hz' hx3
        have a4 := a3.k (Kt.same (s1.trans sm3))
        have l3 : ys3.length ≤ 100 := by
          have e := boxes_len hds3
          rw [List.length_append, List.length_take] at e
          omega
        refine ⟨rfl, yesT ?_⟩
        refine ⟨_, rfl, ys3, hy3, small_lt (by omega), same_mut sm3 hD, ys3 ++ [x], upd_same, ?_⟩
        have kt : Kt K H4 (upd H4 D (.lst (ys3 ++ [x]))) := Kt.lst hy3
        rw [List.take_add_one, hb, ← List.append_assoc, List.map_append]
        exact (hds3.k kt).app (.cons (a4.k kt) .nil)
      · obtain ⟨sm3, ys3, hy3, hds3⟩ := hP
        refine ⟨sm3, ys3, hy3, ?_⟩
        rw [lz, List.take_length] at hds3
        rw [flat_succ hl]
        exact hds3
    obtain ⟨sm7, ys7, hy7, hds7⟩ := hP
    rw [et, List.take_length] at hds7
    have lf : lt.flatten.length ≤ 100 := by
      have := flat_le lt lt.length tb2
      rw [List.take_length] at this
      omega
    exact ⟨D, ys7, lt.flatten, rfl, SqL.of hy7, hds7, lf, fun H8 s8 => k _ ((s1.trans sm7).trans s8)⟩
end
end K10

namespace K10
open PySem L2 Wm TL Dv De
section
variable {P : Program} {w : World} {K : PySem.W.Frag} {mg : Str → Option Value} {base : Heap}
theorem lst_same {H H' : Hp} {q : Addr} {xs : List V} (h : H q = some (.lst xs)) (s : Same H H') : SqL K H' q xs := SqL.of (s _ _ h)
theorem in_rules (w : Str) : inV (.str w) [V.str "rounds", V.str "hear"] = (decide (w = "rounds") || decide (w = "hear")) := by
  unfold inV
  show (((("rounds" : Str) == w) || ((("hear" : Str) == w) || false))) = _
  by_cases e : w = "rounds"
  · subst e
    simp
  · by_cases e2 : w = "hear"
    · subst e2
      simp
    · have n1 : (("rounds" : Str) == w) = false := beq_eq_false_iff_ne.mpr (Ne.symm e)
      have n2 : (("hear" : Str) == w) = false := beq_eq_false_iff_ne.mpr (Ne.symm e2)
      rw [n1, n2, decide_eq_false e, decide_eq_false e2]
      rfl
theorem bools_is {bs : List Bool} {H : Hp} {D : Addr} {ys : List V} (hy : H D = some (.lst ys)) (l : ys.length = bs.length) (hR : ∀ (i : Nat) y, ys[i]? = some y → (bs.map V.bl)[i]? = some y) : SqL K H D (bs.map V.bl) := by
  rw [← Lm.list_is (zs := bs.map V.bl) (by rw [l, List.length_map]) hR]
  exact SqL.of hy
theorem okH_wrong_row (T : Txt K mg) : L2H.FnH P w K mg base CX0 3 T.a_wrong_row T.d_wrong_row ["what", "loops"] (sp_wrong_row K) := by
  refine Hw.okH T.F_wrong_row sc_wrong_row (fun vs H Q E h => ?_) (fun cdv A outer s H vs Q E p0 hc hr h => ?_)
  · obtain ⟨wd, p, ls, rfl, _⟩ := h
    rfl
  · obtain ⟨wd, p, ls, rfl, hL, hz, lok, k⟩ := h
    obtain ⟨xs, hp, el, ha⟩ := id hL
    obtain ⟨z1, z2, z3⟩ := id hz
    refine ⟨_, (pss_cons (ps_if (pt_cmpR op_in_seq (pv 0) (pe_tup (pa_cons pe_str (pa_cons pe_str pa_nil))) rfl)
        (pss_one (ps_ret pe_int))
        pss_nil)
      (pss_cons (ps_if (pt_cmpR op_eq (pv 0) pe_str (nomark _))
        (pss_one (ps_ret (L2H.pe_callH (okH_first_row T) (hr.mono (by decide)) hc (by rfl) T.g_first_row T.F_first_row.kp T.b_first_row Hw.passH (pa_cons (Hw.pe_lcH (own := [("index", 2), ("loop", 3)]) (g := gTup K 2 (gCons (gName 2) (gCons (gName 3) (gNil)))) (tt := tYes) hc sc_wrong_row.nd (Hw.pi_enumH (by rfl) T.z_enumerate (pa_cons (pv 1) pa_nil)) (blkOk_by (own := [("index", 2), ("loop", 3)]) (N := nm_wrong_row) (sc := (defScope s_wrong_row)) (by decide +kernel)) (fun _ _ _ _ _ => (Hw.pg_tupH hc (pgs_cons (pg_name (i := 2) sc_wrong_row.nd rfl (Or.inl rfl)) (pgs_cons (pg_name (i := 3) sc_wrong_row.nd rfl (Or.inl rfl)) pgs_nil)))) (fun _ _ _ _ _ => pts_nil) (fun _ _ _ _ _ => (L2H.pe_callH (okH_is_loop_too_much T) (hr.mono (by decide)) hc (by rfl) T.g_is_loop_too_much T.F_is_loop_too_much.kp T.b_is_loop_too_much Hw.passH (pa_cons (pv 2) (pa_cons (pv 3) pa_nil))))) pa_nil))))
        pss_nil)
      (pss_cons (ps_if (pt_cmpR op_eq (pv 0) pe_str (nomark _))
        (pss_one (ps_ret (L2H.pe_callH (okH_first_row T) (hr.mono (by decide)) hc (by rfl) T.g_first_row T.F_first_row.kp T.b_first_row Hw.passH (pa_cons (Hw.pe_lcH (own := [("loop", 3)]) (g := gName 3) (tt := tYes) hc sc_wrong_row.nd (Hw.pi_listH (pv 1)) (blkOk_by (own := [("loop", 3)]) (N := nm_wrong_row) (sc := (defScope s_wrong_row)) (by decide +kernel)) (fun _ _ _ _ _ => pg_name (i := 3) sc_wrong_row.nd rfl (Or.inl rfl)) (fun _ _ _ _ _ => pts_nil) (fun _ _ _ _ _ => (pe_not (pe_callB (show CallR _ _ (rAll K) from Hw.cr_allH (Hw.up hc)) (by rfl) T.z_all (by decide +kernel) (pa_cons (Hw.pe_lcH (own := [("number", 4), ("_", 5)]) (g := gTup K 2 (gCons (gName 4) (gCons (gName 5) (gNil)))) (tt := tYes) hc sc_wrong_row.nd (show L2H.PIH _ _ _ (iList K (tVar 3)) from (Hw.pi_listH (pv 3))) (blkOk_by (own := [("number", 4), ("_", 5)]) (N := nm_wrong_row) (sc := ({ kind := .function, names := [(".0", .local), ("loop", .local), ("all", .globalImplicit)], isGenerator := false, isCoroutine := false } : Scope)) (by decide +kernel)) (fun _ _ _ _ _ => (Hw.pg_tupH hc (pgs_cons (pg_name (i := 4) sc_wrong_row.nd rfl (Or.inl rfl)) (pgs_cons (pg_name (i := 5) sc_wrong_row.nd rfl (Or.inl rfl)) pgs_nil)))) (fun _ _ _ _ _ => pts_nil) (fun _ _ _ _ _ => (L2H.pe_callH (okH_is_number T) (hr.mono (by decide)) hc (by rfl) T.g_is_number T.F_is_number.kp T.b_is_number Hw.passH (pa_cons (pv 4) pa_nil)))) pa_nil))))) pa_nil))))
        pss_nil)
      (pss_cons (ps_if (pt_cmpR op_eq (pv 0) pe_str (nomark _))
        (pss_one (ps_ret (L2H.pe_callH (okH_first_row T) (hr.mono (by decide)) hc (by rfl) T.g_first_row T.F_first_row.kp T.b_first_row Hw.passH (pa_cons (Hw.pe_lcH (own := [("loop", 3)]) (g := gName 3) (tt := tYes) hc sc_wrong_row.nd (Hw.pi_listH (pv 1)) (blkOk_by (own := [("loop", 3)]) (N := nm_wrong_row) (sc := (defScope s_wrong_row)) (by decide +kernel)) (fun _ _ _ _ _ => pg_name (i := 3) sc_wrong_row.nd rfl (Or.inl rfl)) (fun _ _ _ _ _ => pts_nil) (fun _ _ _ _ _ => (pe_not (pe_callB (show CallR _ _ (rAll K) from Hw.cr_allH (Hw.up hc)) (by rfl) T.z_all (by decide +kernel) (pa_cons (Hw.pe_lcH (own := [("_", 5), ("sort", 6)]) (g := gTup K 2 (gCons (gName 5) (gCons (gName 6) (gNil)))) (tt := tYes) hc sc_wrong_row.nd (show L2H.PIH _ _ _ (iList K (tVar 3)) from (Hw.pi_listH (pv 3))) (blkOk_by (own := [("_", 5), ("sort", 6)]) (N := nm_wrong_row) (sc := ({ kind := .function, names := [(".0", .local), ("loop", .local), ("all", .globalImplicit)], isGenerator := false, isCoroutine := false } : Scope)) (by decide +kernel)) (fun _ _ _ _ _ => (Hw.pg_tupH hc (pgs_cons (pg_name (i := 5) sc_wrong_row.nd rfl (Or.inl rfl)) (pgs_cons (pg_name (i := 6) sc_wrong_row.nd rfl (Or.inl rfl)) pgs_nil)))) (fun _ _ _ _ _ => pts_nil) (fun _ _ _ _ _ => (L2H.pe_callH (okH_is_sort T) (hr.mono (by decide)) hc (by rfl) T.g_is_sort T.F_is_sort.kp T.b_is_sort Hw.passH (pa_cons (pv 6) pa_nil)))) pa_nil))))) pa_nil))))
        pss_nil)
      (pss_one (ps_ret (L2H.pe_callH (okH_first_row T) (hr.mono (by decide)) hc (by rfl) T.g_first_row T.F_first_row.kp T.b_first_row Hw.passH (pa_cons (Hw.pe_lcH (own := [("index", 2)]) (g := gName 2) (tt := tYes) hc sc_wrong_row.nd (L2H.pi_range1H (by rfl) T.z_range (pa_cons (pe_callB call_len_seq (by rfl) T.z_len PySem.boot_len (pa_cons (pv 1) pa_nil)) pa_nil)) (blkOk_by (own := [("index", 2)]) (N := nm_wrong_row) (sc := (defScope s_wrong_row)) (by decide +kernel)) (fun _ _ _ _ _ => pg_name (i := 2) sc_wrong_row.nd rfl (Or.inl rfl)) (fun _ _ _ _ _ => pts_nil) (fun _ _ _ _ _ => (L2H.pe_callH (okH_has_double_up_to T) (hr.mono (by decide)) hc (by rfl) T.g_has_double_up_to T.F_has_double_up_to.kp T.b_has_double_up_to Hw.passH (pa_cons (pv 1) (pa_cons (pv 2) pa_nil))))) pa_nil)))))))), ?_⟩
    refine ⟨_, rfl, by show 2 ≤ sizeLine; decide, fun t2 ht => ?_⟩
    have s1 : Same H (upd H t2 (.tup [.str "rounds", .str "hear"])) := same_new ht
    refine ⟨t2, _, rfl, .inr (SqT.of upd_same), rfl, rfl, _, rfl, ?_⟩
    generalize upd H t2 (.tup [.str "rounds", .str "hear"]) = H1 at *
    rw [show (if false = true then !inV (.str wd) [V.str "rounds", V.str "hear"] else inV (.str wd) [V.str "rounds", V.str "hear"]) = inV (.str wd) [V.str "rounds", V.str "hear"] from if_neg (by decide), in_rules]
    by_cases c0 : wd = "rounds" ∨ wd = "hear"
    · have e : (decide (wd = "rounds") || decide (wd = "hear")) = true := by rw [← Bool.decide_or]; exact decide_eq_true c0
      rw [e]
      refine iteT ?_
      have e2 : wrongI wd ls = 0 := by unfold wrongI; rw [if_pos c0]
      show Q (.int 0) _
      rw [← e2]
      exact k _ s1
    have e : (decide (wd = "rounds") || decide (wd = "hear")) = false := by rw [← Bool.decide_or]; exact decide_eq_false c0
    rw [e]
    refine iteF ?_
    refine ⟨_, rfl, rfl, _, rfl, ?_⟩
    have hp1 := s1 _ _ hp
    by_cases c1 : wd = "loops"
    · rw [decide_eq_true (show V.str wd = V.str "loops" by rw [c1])]
      refine iteT ?_
      refine ⟨_, rfl, p, _, rfl, SqL.of hp1, fun D hD => ?_⟩
      refine lc_it (tt := tYes) (walk_enum (xs := xs)) (fun i H' => Same H1 H' ∧ H' D = some (.lst ((((List.range ls.length).map fun i => decide (10 < (ls.getD i []).length) || decide (3 ≤ i)).take i).map V.bl))) ⟨same_new hD, upd_same⟩ (fun i H' _ h => SqL.of (h.1 _ _ hp1)) (fun i x H3 H' hi hP hY => ?_) (fun H3 hP => ?_)
      · obtain ⟨sm, hy⟩ := hP
        obtain ⟨tp, x1, x2, rfl, ht, rfl, e1, e2⟩ := hY
        cases e1
        have e3 : xs[i]? = some x2 := e2
        obtain ⟨l, q1, zs, hl, rfl, hq, lz, hz'⟩ := lps_at ha e3
        have il : i < ls.length := (List.getElem?_eq_some_iff.mp hl).1
        have sB : Same H1 (upd H3 tp (.tup [.int (i : Nat), .ref q1])) := sm.trans (same_new ht)
        have hyB := same_new (o := .tup [.int (i : Nat), .ref q1]) ht _ _ hy
        refine ⟨tp, _, rfl, SqT.of upd_same, rfl, _, _, rfl, _, _, rfl, rfl, rfl, yesT ?_⟩
        generalize upd H3 tp (.tup [.int (i : Nat), .ref q1]) = H4 at *
        refine ⟨_, rfl, _, rfl, i, q1, zs, rfl, SqL.of (sB _ _ (s1 _ _ hq)), ?_⟩
        have hb : ((List.range ls.length).map fun i => decide (10 < (ls.getD i []).length) || decide (3 ≤ i))[i]? = some (decide (10 < zs.length) || decide (3 ≤ i)) := by
          rw [List.getElem?_map, List.getElem?_range il, lz]
          simp [hl]
        refine ⟨_, hyB, by rw [List.length_map, List.length_take]; exact small_lt (by omega), same_mut sB hD, ?_⟩
        rw [upd_same, take_succ_map _ hb]
      · obtain ⟨sm, hy⟩ := hP
        rw [el, List.take_of_length_le (by rw [List.length_map, List.length_range]; omega)] at hy
        refine ⟨D, _, rfl, SqL.of hy, fun H3 s3 => ?_⟩
        have e2 : wrongI wd ls = firstI ((List.range ls.length).map fun i => decide (10 < (ls.getD i []).length) || decide (3 ≤ i)) := by unfold wrongI; rw [if_neg c0, if_pos c1]
        rw [← e2]
        exact k _ ((s1.trans sm).trans s3)
    rw [decide_eq_false (fun z => c1 (V.str.inj z))]
    refine iteF ?_
    have bnd := loops_bnd (lok c1)
    refine ⟨_, rfl, rfl, _, rfl, ?_⟩
    by_cases c2 : wd = "number"
    · rw [decide_eq_true (show V.str wd = V.str "number" by rw [c2])]
      refine iteT ?_
      refine ⟨_, rfl, p, rfl, ⟨_, SqL.of hp1⟩, fun D hD => ?_⟩
      refine Lm.lc_map (K := K) walk_list (fun i y _ => ((ls.map fun l => !(l.all fun b => numOk b.1)).map V.bl)[i]? = some y) (fun _ _ _ _ h _ => h) hD (by omega) (fun H' s => SqL.of (s _ _ hp1)) (fun i x H' hi hx sm Q2 Z q => ?_) (fun H2 ys s2 hy ly hR => ?_)
      · obtain ⟨l, q1, zs, hl, rfl, hq, lz, hz'⟩ := lps_at ha hx
        have hq' := sm _ _ (s1 _ _ hq)
        refine ⟨rfl, yesT ?_⟩
        refine ⟨_, rfl, q1, rfl, ⟨_, SqL.of hq'⟩, fun D2 hD2 => ?_⟩
        refine Lm.lc_map (K := K) walk_list (fun i y _ => (l.map fun b => V.bl (numOk b.1))[i]? = some y) (fun _ _ _ _ h _ => h) hD2 (by have := bnd.2 l (List.mem_of_getElem? hl); omega) (fun H' s => SqL.of (s _ _ hq')) (fun j x H3 hj hx3 sm3 Q3 Z3 q3 => ?_) (fun H3 zs3 s3 hy3 ly3 hR3 => ?_)
        · obtain ⟨b, hb, a⟩ := boxes_at hz' hx3
          obtain ⟨q2, rfl, hq2⟩ := box_inv (a.k (Kt.same ((s1.trans sm).trans sm3)))
          have zz := z3 l (List.mem_of_getElem? hl) b (List.mem_of_getElem? hb)
          refine ⟨q2, _, rfl, hq2, rfl, _, _, rfl, _, _, rfl, rfl, rfl, yesT ?_⟩
          exact ⟨_, rfl, b.1, by omega, rfl, fun H5 s5 => q3 _ _ s5 (by rw [List.getElem?_map, hb]; rfl)⟩
        · refine ⟨D2, _, rfl, all_bools (f := fun b => numOk b.1) hy3 (by rw [ly3, lz]) hR3, _, rfl, q _ _ s3 ?_⟩
          rw [all_map, List.getElem?_map, List.getElem?_map, hl]
          rfl
      · refine ⟨D, _, rfl, bools_is hy (by rw [ly, el, List.length_map]) hR, fun H3 s3 => ?_⟩
        have e2 : wrongI wd ls = firstI (ls.map fun l => !(l.all fun b => numOk b.1)) := by unfold wrongI; rw [if_neg c0, if_neg c1, if_pos c2]
        rw [← e2]
        exact k _ ((s1.trans s2).trans s3)
    rw [decide_eq_false (fun z => c2 (V.str.inj z))]
    refine iteF ?_
    refine ⟨_, rfl, rfl, _, rfl, ?_⟩
    by_cases c3 : wd = "sort"
    · rw [decide_eq_true (show V.str wd = V.str "sort" by rw [c3])]
      refine iteT ?_
      refine ⟨_, rfl, p, rfl, ⟨_, SqL.of hp1⟩, fun D hD => ?_⟩
      refine Lm.lc_map (K := K) walk_list (fun i y _ => ((ls.map fun l => !(l.all fun b => sortOk b.2)).map V.bl)[i]? = some y) (fun _ _ _ _ h _ => h) hD (by omega) (fun H' s => SqL.of (s _ _ hp1)) (fun i x H' hi hx sm Q2 Z q => ?_) (fun H2 ys s2 hy ly hR => ?_)
      · obtain ⟨l, q1, zs, hl, rfl, hq, lz, hz'⟩ := lps_at ha hx
        have hq' := sm _ _ (s1 _ _ hq)
        refine ⟨rfl, yesT ?_⟩
        refine ⟨_, rfl, q1, rfl, ⟨_, SqL.of hq'⟩, fun D2 hD2 => ?_⟩
        refine Lm.lc_map (K := K) walk_list (fun i y _ => (l.map fun b => V.bl (sortOk b.2))[i]? = some y) (fun _ _ _ _ h _ => h) hD2 (by have := bnd.2 l (List.mem_of_getElem? hl); omega) (fun H' s => SqL.of (s _ _ hq')) (fun j x H3 hj hx3 sm3 Q3 Z3 q3 => ?_) (fun H3 zs3 s3 hy3 ly3 hR3 => ?_)
        · obtain ⟨b, hb, a⟩ := boxes_at hz' hx3
          obtain ⟨q2, rfl, hq2⟩ := box_inv (a.k (Kt.same ((s1.trans sm).trans sm3)))
          refine ⟨q2, _, rfl, hq2, rfl, _, _, rfl, _, _, rfl, rfl, rfl, yesT ?_⟩
          exact ⟨_, rfl, b.2, rfl, fun H5 s5 => q3 _ _ s5 (by rw [List.getElem?_map, hb]; rfl)⟩
        · refine ⟨D2, _, rfl, all_bools (f := fun b => sortOk b.2) hy3 (by rw [ly3, lz]) hR3, _, rfl, q _ _ s3 ?_⟩
          rw [all_map, List.getElem?_map, List.getElem?_map, hl]
          rfl
      · refine ⟨D, _, rfl, bools_is hy (by rw [ly, el, List.length_map]) hR, fun H3 s3 => ?_⟩
        have e2 : wrongI wd ls = firstI (ls.map fun l => !(l.all fun b => sortOk b.2)) := by unfold wrongI; rw [if_neg c0, if_neg c1, if_neg c2, if_pos c3]
        rw [← e2]
        exact k _ ((s1.trans s2).trans s3)
    rw [decide_eq_false (fun z => c3 (V.str.inj z))]
    refine iteF ?_
    refine ⟨_, rfl, p, _, rfl, .inl (SqL.of hp1), ?_⟩
    refine ⟨_, rfl, by omega, by omega, ?_⟩
    rw [Int.toNat_natCast]
    intro D hD
    refine lc_it (tt := tYes) walk_range (fun i H' => Same H1 H' ∧ H' D = some (.lst ((((List.range ls.length).map fun i => dbl (ls.take (i + 1)).flatten).take i).map V.bl))) ⟨same_new hD, upd_same⟩ (fun _ _ _ _ => trivial) (fun i x H3 H' hi hP hY => ?_) (fun H3 hP => ?_)
    · obtain ⟨sm, hy⟩ := hP
      obtain ⟨rfl, rfl⟩ := hY
      refine ⟨rfl, yesT ?_⟩
      refine ⟨_, rfl, _, rfl, p, ls, i, by show [V.ref p, V.int (0 + (i : Int))] = _; rw [Int.zero_add], hL.k (s1.trans sm), bnd.1, bnd.2, fun H5 s5 => ?_⟩
      have hb : ((List.range ls.length).map fun i => dbl (ls.take (i + 1)).flatten)[i]? = some (dbl (ls.take (i + 1)).flatten) := by
        rw [List.getElem?_map, List.getElem?_range (by omega)]
        rfl
      refine ⟨_, s5 _ _ hy, by rw [List.length_map, List.length_take]; exact small_lt (by omega), same_mut (sm.trans s5) hD, ?_⟩
      rw [upd_same, take_succ_map _ hb]
    · obtain ⟨sm, hy⟩ := hP
      rw [el, List.take_of_length_le (by rw [List.length_map, List.length_range]; omega)] at hy
      refine ⟨D, _, rfl, SqL.of hy, fun H3 s3 => ?_⟩
      have e2 : wrongI wd ls = firstI ((List.range ls.length).map fun i => dbl (ls.take (i + 1)).flatten) := by unfold wrongI; rw [if_neg c0, if_neg c1, if_neg c2, if_neg c3]
      rw [← e2]
      exact k _ ((s1.trans sm).trans s3)
end
end K10

namespace K10
open PySem L2 Wm TL Dv De
section
variable {P : Program} {w : World} {K : PySem.W.Frag} {mg : Str → Option Value} {base : Heap}
theorem spl_ne (S : List Nat) : ∀ (l acc : List Nat), spl S 0 acc l ≠ []
  | [], acc => by rw [spl_nil]; simp
  | c :: r, acc => by
    cases h : pre S (c :: r) with
    | true => rw [spl_hit h]; simp
    | false => rw [spl_miss h]; exact spl_ne S r _
theorem joinL_cons {S p : List Nat} {ps : List (List Nat)} (h : ps ≠ []) : joinL S (p :: ps) = p ++ (S ++ joinL S ps) := by
  cases ps with
  | nil => exact absurd rfl h
  | cons a b => rfl
theorem joinL_spl {S : List Nat} (hS : S ≠ []) : ∀ (n : Nat) (l acc : List Nat), l.length ≤ n → joinL S (spl S 0 acc l) = acc ++ l
  | _, [], acc, _ => by rw [spl_nil, List.append_nil]; rfl
  | 0, c :: r, acc, h => absurd h (by simp)
  | n + 1, c :: r, acc, h => by
    rw [List.length_cons] at h
    cases e : pre S (c :: r) with
    | true =>
      rw [spl_hit e, spl_pass, joinL_cons (spl_ne _ _ _), joinL_spl hS n _ [] (by rw [List.length_drop]; omega), List.nil_append]
      have e2 : (c :: r).take S.length = S := eq_of_beq e
      obtain ⟨s, S2, rfl⟩ := List.exists_cons_of_ne_nil hS
      rw [List.length_cons, List.take_succ_cons] at e2
      obtain ⟨e3, e4⟩ := List.cons.inj e2
      subst e3
      rw [List.length_cons, Nat.add_sub_cancel]
      have key := List.take_append_drop S2.length r
      rw [e4] at key
      show acc ++ (c :: (S2 ++ r.drop S2.length)) = _
      rw [key]
    | false =>
      rw [spl_miss e, joinL_spl hS n r _ (by omega), List.append_assoc]
      rfl
theorem join_spl {S l : List Nat} (hS : S ≠ []) : joinL S (spl S 0 [] l) = l := by
  rw [joinL_spl hS l.length l [] (Nat.le_refl _), List.nil_append]
theorem mem_len {S p : List Nat} : ∀ {ps : List (List Nat)}, p ∈ ps → p.length ≤ (joinL S ps).length
  | [], h => absurd h (List.not_mem_nil)
  | [q], h => by rw [List.mem_singleton.mp h]; exact Nat.le_refl _
  | q :: r :: s, h => by
    show p.length ≤ (q ++ (S ++ joinL S (r :: s))).length
    rw [List.length_append, List.length_append]
    rcases List.mem_cons.mp h with rfl | h
    · omega
    · have := mem_len (S := S) h
      omega
theorem num_len {S p : List Nat} : ∀ {ps : List (List Nat)}, S ≠ [] → ps.length ≤ (joinL S ps).length + 1
  | [], _ => Nat.zero_le _
  | [q], _ => by simp
  | q :: r :: s, h => by
    have ih := num_len (S := S) (p := p) (ps := r :: s) h
    have l : 1 ≤ S.length := by cases S with | nil => exact absurd rfl h | cons a b => simp
    show _ ≤ (q ++ (S ++ joinL S (r :: s))).length + 1
    rw [List.length_append, List.length_append, List.length_cons]
    omega
theorem split_tl {t b : Str} {S : List Nat} (hb : tl b = S) (hs : S ≠ []) (h : S.all (· < 256) = true) : (Txt.split t b).map tl = spl S 0 [] (tl t) := by
  have e := split_spl t b (by rw [hb]; exact hs) (kind_ok (by
    rw [← Array.all_toList]
    show (tl b).all _ = true
    rw [hb]
    exact h))
  rw [hb] at e
  exact e
open SX in
theorem find_no {l : List Nat} {c : Nat} (h : c ∉ l) : Txt.find (S l) (S [c]) = -1 := by
  rcases PyProof.Rows.find_whole (S l) (S [c]) with ⟨e, _⟩ | ⟨i, _, a, _⟩
  · exact e
  · exact absurd (List.mem_of_getElem? ((StrLaws.subAt_one (S l) c i).mp a)) h
open SX in
theorem find_at {p q : List Nat} {c : Nat} (h : c ∉ p) : Txt.find (S (p ++ c :: q)) (S [c]) = (p.length : Int) := by
  have here : (p ++ c :: q)[p.length]? = some c := by simp
  rcases PyProof.Rows.find_whole (S (p ++ c :: q)) (S [c]) with ⟨_, no⟩ | ⟨i, e, a, no⟩
  · exact absurd ((StrLaws.subAt_one (S (p ++ c :: q)) c p.length).mpr here) (no _)
  · rw [e]
    have z : (p ++ c :: q)[i]? = some c := (StrLaws.subAt_one (S (p ++ c :: q)) c i).mp a
    have l1 : ¬ i < p.length := fun lt => by
      rw [List.getElem?_append_left lt] at z
      exact h (List.mem_of_getElem? z)
    have l2 : ¬ p.length < i := fun lt => no _ lt ((StrLaws.subAt_one (S (p ++ c :: q)) c p.length).mpr here)
    omega
theorem first_of {c : Nat} : ∀ {l : List Nat}, c ∈ l → ∃ p q, l = p ++ c :: q ∧ c ∉ p
  | x :: l, m => by
    by_cases e : x = c
    · exact ⟨[], l, by rw [e]; rfl, by simp⟩
    · rcases List.mem_cons.mp m with z | m
      · exact absurd z.symm e
      · obtain ⟨p, q, rfl, n⟩ := first_of m
        exact ⟨x :: p, q, rfl, fun z => (List.mem_cons.mp z).elim (fun y => e y.symm) n⟩
theorem spl_one {p : List Nat} (h : 32 ∉ p) : spl [32] 0 [] p = [p] := SX.spl_join (c := 32) (sep := []) (parts := [p]) (by simp) fun q m => by
  rw [List.mem_singleton.mp m]
  exact h
theorem spl_two {p q : List Nat} (h : 32 ∉ p) : spl [32] 0 [] (p ++ 32 :: q) = p :: spl [32] 0 [] q := SX.spl_free (sep := [32]) q (by simp) (SX.free_head h)
theorem space : (" " : Str) = SX.S [32] := by decide +kernel
theorem split_sp (l : List Nat) : Txt.split (SX.S l) " " = (spl [32] 0 [] l).map SX.S := by
  rw [space]
  exact SX.split_S (by simp) (by decide)
theorem S_nil {p : List Nat} : SX.S p = "" ↔ p = [] := by
  constructor
  · intro h
    exact SX.S_inj (h.trans (by decide +kernel : ("" : Str) = SX.S []))
  · rintro rfl
    decide +kernel
theorem piece_no {l : List Nat} (h : 32 ∉ l) : pieceO (SX.S l) = none := by
  unfold pieceO
  rw [split_sp, spl_one h]
  rfl
theorem piece_at {p q : List Nat} (h : 32 ∉ p) : pieceO (SX.S (p ++ 32 :: q)) = if p = [] ∨ q = [] ∨ 32 ∈ q then none else some (SX.S p, SX.S q) := by
  unfold pieceO
  rw [split_sp, spl_two h]
  by_cases m : 32 ∈ q
  · rw [if_pos (.inr (.inr m))]
    obtain ⟨p2, q2, rfl, n⟩ := first_of m
    rw [spl_two n]
    cases e : spl [32] 0 [] q2 with
    | nil => exact absurd e (spl_ne _ _ _)
    | cons a b => rfl
  · rw [spl_one m]
    show (if SX.S p ≠ "" ∧ SX.S q ≠ "" then some (SX.S p, SX.S q) else none) = _
    by_cases c : p = [] ∨ q = []
    · have n : ¬ (SX.S p ≠ "" ∧ SX.S q ≠ "") := fun z => c.elim (fun y => z.1 (S_nil.mpr y)) fun y => z.2 (S_nil.mpr y)
      rw [if_neg n, if_pos (c.elim Or.inl fun z => Or.inr (Or.inl z))]
    · have y : SX.S p ≠ "" ∧ SX.S q ≠ "" := ⟨fun z => c (Or.inl (S_nil.mp z)), fun z => c (Or.inr (S_nil.mp z))⟩
      have n : ¬ (p = [] ∨ q = [] ∨ 32 ∈ q) := fun z => z.elim (fun a => c (Or.inl a)) fun z => z.elim (fun a => c (Or.inr a)) m
      rw [if_pos y, if_neg n]
/-- pieces of a split text -/
theorem split_bnd {t b : Str} {s : List Nat} (hb : tl b = s) (hs : s ≠ []) (h : s.all (· < 256) = true) : (Txt.split t b).length ≤ t.length + 1 ∧ (∀ x ∈ Txt.split t b, x.length ≤ t.length) ∧ Txt.split t b ≠ [] := by
  have es := split_tl (t := t) hb hs h
  refine ⟨?_, fun x m => ?_, fun e => ?_⟩
  · have e := num_len (S := s) (p := []) (ps := (Txt.split t b).map tl) hs
    rw [List.length_map, es, join_spl hs, ← len_tl] at e
    exact e
  · have e := mem_len (S := s) (List.mem_map_of_mem (f := tl) m)
    rw [es, join_spl hs, ← len_tl, ← len_tl] at e
    exact e
  · rw [e] at es
    exact spl_ne _ _ _ es.symm
end
end K10

namespace K10
open PySem L2 Wm TL Dv De
section
variable {P : Program} {w : World} {K : PySem.W.Frag} {mg : Str → Option Value} {base : Heap}
theorem headW_no {ws : List Str} (h : ws.length ≠ 4) : headW ws = none := by
  unfold headW
  split
  · exact absurd rfl h
  · rfl
theorem four {ws : List Str} (h : ws.length = 4) : ∃ a b c d, ws = [a, b, c, d] := by
  match ws, h with
  | [a, b, c, d], _ => exact ⟨a, b, c, d, rfl⟩
theorem headW_4 (a b c d : Str) : headW [a, b, c, d] = if a = "rounds" ∧ c = "hear" then (match digO b, digO d with | some r, some h => some (r, h) | _, _ => none) else none := rfl
theorem headW_a {a b c d : Str} (h : ¬ (a = "rounds" ∧ c = "hear")) : headW [a, b, c, d] = none := by rw [headW_4, if_neg h]
theorem headW_b {a b c d : Str} (h : digO b = none) : headW [a, b, c, d] = none := by
  rw [headW_4]
  split
  · rw [h]
  · rfl
theorem headW_d {a b c d : Str} (h : digO d = none) : headW [a, b, c, d] = none := by
  rw [headW_4]
  split
  · rw [h]
    cases digO b <;> rfl
  · rfl
theorem headW_y {a b c d : Str} {r h : Nat} (e : a = "rounds" ∧ c = "hear") (eb : digO b = some r) (ed : digO d = some h) : headW [a, b, c, d] = some (r, h) := by rw [headW_4, if_pos e, eb, ed]
theorem iteN {c : Bool} {A B : Prop} (e : c = false) (h : B) : if c = true then A else B := by
  rw [if_neg (by rw [e]; decide)]
  exact h
theorem iteY {c : Bool} {A B : Prop} (e : c = true) (h : A) : if c = true then A else B := by
  rw [if_pos e]
  exact h
theorem dig10 (c : Nat) : c ∈ ("0123456789" : Str).cps.toList ↔ ∃ n : Nat, n ≤ 9 ∧ c = n + 48 := by
  have e : ("0123456789" : Str).cps.toList = [48, 49, 50, 51, 52, 53, 54, 55, 56, 57] := by decide +kernel
  rw [e]
  simp only [List.mem_cons, List.not_mem_nil, or_false]
  constructor
  · intro h
    exact ⟨c - 48, by omega, by omega⟩
  · rintro ⟨n, h, rfl⟩
    omega
theorem one_sign {t : Str} (h : t.length = 1) : ∃ c, t = ⟨#[c]⟩ := by
  obtain ⟨a⟩ := t
  have h : a.size = 1 := h
  match a, h with
  | ⟨[c]⟩, _ => exact ⟨c, rfl⟩
theorem digO_not {t : Str} (h : t.length ≠ 1) : digO t = none := by
  unfold digO
  have l := len_tl t
  unfold tl at l
  match e : t.cps.toList with
  | [] => rfl
  | [c] => rw [e] at l; exact absurd l h
  | _ :: _ :: _ => rfl
theorem digO_one (c : Nat) : (digO ⟨#[c]⟩).isSome = decide (c ∈ ("0123456789" : Str).cps.toList) := by
  show (if 48 ≤ c ∧ c ≤ 57 then some (c - 48) else none).isSome = _
  by_cases h : 48 ≤ c ∧ c ≤ 57
  · rw [if_pos h, decide_eq_true ((dig10 c).mpr ⟨c - 48, by omega, by omega⟩)]
    rfl
  · rw [if_neg h, decide_eq_false (fun z => by obtain ⟨n, a, b⟩ := (dig10 c).mp z; omega)]
    rfl
theorem dig_txt {n : Nat} (h : n ≤ 9) : PySem.intText? ⟨#[n + 48]⟩ = some (n : Int) := by
  have c : n = 0 ∨ n = 1 ∨ n = 2 ∨ n = 3 ∨ n = 4 ∨ n = 5 ∨ n = 6 ∨ n = 7 ∨ n = 8 ∨ n = 9 := by omega
  rcases c with e | e | e | e | e | e | e | e | e | e <;> subst e <;> decide +kernel
theorem digO_some {t : Str} {n : Nat} (h : digO t = some n) : n ≤ 9 ∧ t.length = 1 ∧ PySem.intText? t = some (n : Int) := by
  by_cases l : t.length = 1
  · obtain ⟨c, rfl⟩ := one_sign l
    have h : (if 48 ≤ c ∧ c ≤ 57 then some (c - 48) else none) = some n := h
    by_cases q : 48 ≤ c ∧ c ≤ 57
    · rw [if_pos q] at h
      obtain rfl := Option.some.inj h
      refine ⟨by omega, l, ?_⟩
      have e := dig_txt (n := c - 48) (by omega)
      rw [show c - 48 + 48 = c by omega] at e
      exact e
    · rw [if_neg q] at h
      cases h
  · rw [digO_not l] at h
    cases h
theorem ok_is_digit (T : Txt K mg) : FnOk P w K mg base CX0 1 T.a_is_digit T.d_is_digit ["word"] (sp_is_digit K) := by
  refine T.F_is_digit.ok sc_is_digit (fun vs H Q E h => ?_) (fun cdv A outer s H vs Q E hr h => ?_)
  · obtain ⟨t, rfl, _⟩ := h
    rfl
  · obtain ⟨t, rfl, hz, k⟩ := h
    refine ⟨_, (pss_one (ps_ret (pe_and (pe_cmpR op_eq (pe_callB call_len_str (by rfl) T.z_len PySem.boot_len (pa_cons (pv 0) pa_nil)) pe_int (nomark _)) (pe_one (pe_cmpR op_in_sign (pv 0) pe_str rfl))))), ?_⟩
    refine ⟨_, rfl, _, rfl, small_len hz, rfl, _, rfl, ?_⟩
    by_cases c : t.length = 1
    · rw [show decide (V.int ((t.length : Nat) : Int) = V.int 1) = true from decide_eq_true (by rw [c]; rfl)]
      refine iteT ?_
      obtain ⟨d, rfl⟩ := one_sign c
      refine ⟨_, rfl, d, _, rfl, rfl, ?_⟩
      rw [digO_one] at k
      exact k
    · rw [show decide (V.int ((t.length : Nat) : Int) = V.int 1) = false from decide_eq_false fun z => c (by have := V.int.inj z; omega)]
      refine iteF ?_
      rw [digO_not c] at k
      exact k
theorem ok_read_head (T : Txt K mg) : FnOk P w K mg base (L2.CX P w) 2 T.a_read_head T.d_read_head ["row"] (sp_read_head K T.CR) := by
  refine T.F_read_head.okX sc_read_head (fun vs H Q E h => ?_) (fun cdv A outer s H vs Q E hr h => ?_)
  · obtain ⟨t, rfl, _⟩ := h
    rfl
  · obtain ⟨t, rfl, lt, k, er⟩ := h
    obtain ⟨w1, w2, w3⟩ := split_bnd (t := t) (b := " ") (s := [32]) (by decide +kernel) (by simp) (by decide)
    unfold headO at k er
    refine ⟨_, (pss_cons (ps_set (i := 1) sc_read_head.nd rfl (Or.inl rfl) (pe_split (pv 0) pe_str))
      (pss_cons (ps_if (PW.pt (pw_or (pt_cmpR op_ne (pe_callB call_len_seq (by rfl) T.z_len PySem.boot_len (pa_cons (pv 1) pa_nil)) pe_int (nomark _)) (pw_or (pt_cmpR op_ne (pe_ix ix_list (pv 1) pe_int (fun _ _ => rfl)) pe_str (nomark _)) (pw_or1 (pt_cmpR op_ne (pe_ix ix_list (pv 1) pe_int (fun _ _ => rfl)) pe_str (nomark _))))))
        (pss_one (ps_raiseLowR rfl T.lowR hr (takes_of rfl rfl rfl rfl) (by exact (pa_cons pe_int (pa_cons pe_str pa_nil)))))
        pss_nil)
      (pss_cons (ps_if (PW.pt (pw_or (pt_not (pt_val (pe_call (ok_is_digit T) (hr.mono (by decide)) (by rfl) T.g_is_digit T.F_is_digit.kp T.b_is_digit .nil pass0 (pa_cons (pe_ix ix_list (pv 1) pe_int (fun _ _ => rfl)) pa_nil)))) (pw_or1 (pt_not (pt_val (pe_call (ok_is_digit T) (hr.mono (by decide)) (by rfl) T.g_is_digit T.F_is_digit.kp T.b_is_digit .nil pass0 (pa_cons (pe_ix ix_list (pv 1) pe_int (fun _ _ => rfl)) pa_nil)))))))
        (pss_one (ps_raiseLowR rfl T.lowR hr (takes_of rfl rfl rfl rfl) (by exact (pa_cons pe_int (pa_cons pe_str pa_nil)))))
        pss_nil)
      (pss_one (ps_ret (pe_tup (pa_cons (pe_callTy call_int_str (by rfl) T.z_int (by decide +kernel) (pa_cons (pe_ix ix_list (pv 1) pe_int (fun _ _ => rfl)) pa_nil)) (pa_cons (pe_callTy call_int_str (by rfl) T.z_int (by decide +kernel) (pa_cons (pe_ix ix_list (pv 1) pe_int (fun _ _ => rfl)) pa_nil)) pa_nil)))))))), ?_⟩
    refine ⟨_, rfl, ⟨_, rfl⟩, _, _, rfl, rfl, by decide +kernel, small_len (by omega), fun q hq => ?_⟩
    generalize Txt.split t " " = ws at *
    have s1 := same_new (o := .lst (ws.map V.str)) hq
    have hS : upd H q (.lst (ws.map V.str)) q = some (.lst (ws.map V.str)) := upd_same
    generalize upd H q (.lst (ws.map V.str)) = H1 at *
    have hS := SqL.of (K := K) hS
    have raise : headW ws = none → ∀ dd, H1 dd = none → E (.ref T.CR) (some dd) (upd H1 dd (.xd [(("what" : Str), .str "head"), (("row" : Str), .int 0)])) := fun e dd hdd => er e _ dd (s1.trans (same_new hdd)) upd_same
    refine ⟨_, rfl, q, _, rfl, .inl hS, rfl, _, rfl, ?_⟩
    by_cases c4 : ws.length = 4
    case neg => exact iteY (by simp [c4]; omega) (iteT ⟨_, _, rfl, raise (headW_no c4)⟩)
    refine iteN (by simp [c4]) ?_
    obtain ⟨a, b, c, d, rfl⟩ := four c4
    have lb := w2 b (by simp)
    have ld := w2 d (by simp)
    clear w1 w2 w3 er
    refine ⟨_, rfl, q, _, 0, _, rfl, rfl, hS, atI_nat (j := 0) rfl, rfl, _, rfl, ?_⟩
    by_cases ea : a = "rounds"
    case neg => exact iteY (by simpa using ea) (iteT ⟨_, _, rfl, raise (headW_a fun z => ea z.1)⟩)
    refine iteN (by simp [ea]) ?_
    refine ⟨_, rfl, q, _, 2, _, rfl, rfl, hS, atI_nat (j := 2) rfl, rfl, _, rfl, ?_⟩
    by_cases ec : c = "hear"
    case neg => exact iteY (by simpa using ec) ⟨_, _, rfl, raise (headW_a fun z => ec z.2)⟩
    refine iteN (by simp [ec]) ?_
    refine ⟨_, rfl, q, _, 1, _, rfl, rfl, hS, atI_nat (j := 1) rfl, b, rfl, by omega, _, rfl, ?_⟩
    cases eb : digO b with
    | none => exact iteT (iteT ⟨_, _, rfl, raise (headW_b eb)⟩)
    | some r =>
    refine iteF ?_
    refine ⟨_, rfl, q, _, 3, _, rfl, rfl, hS, atI_nat (j := 3) rfl, d, rfl, by omega, _, rfl, ?_⟩
    cases ed : digO d with
    | none => exact iteT ⟨_, _, rfl, raise (headW_d ed)⟩
    | some h =>
    refine iteF ?_
    obtain ⟨r9, rl, ri⟩ := digO_some eb
    obtain ⟨h9, hl, hi⟩ := digO_some ed
    refine ⟨_, rfl, q, _, 1, _, rfl, rfl, hS, atI_nat (j := 1) rfl, b, _, rfl, ri, by rw [rl]; decide, ?_⟩
    refine ⟨_, rfl, q, _, 3, _, rfl, rfl, hS, atI_nat (j := 3) rfl, d, _, rfl, hi, by rw [hl]; decide, ?_⟩
    refine ⟨by show 2 ≤ sizeLine; decide, fun t2 ht => ?_⟩
    exact k r h (headW_y ⟨ea, ec⟩ eb ed) _ t2 (s1.trans (same_new ht)) upd_same
end
end K10

namespace K10
open PySem L2 Wm TL Dv De
section
variable {P : Program} {w : World} {K : PySem.W.Frag} {mg : Str → Option Value} {base : Heap}
theorem flat_strs (ts : List Str) : (ts.map V.str).all flatV = true := by
  rw [List.all_map]
  exact List.all_eq_true.mpr fun _ _ => rfl
theorem in_strs (x : Str) : ∀ ts : List Str, inV (.str x) (ts.map V.str) = decide (x ∈ ts)
  | [] => rfl
  | t :: ts => by
    have ih := in_strs x ts
    unfold inV at ih ⊢
    rw [List.map_cons, List.any_cons, ih]
    show ((t == x) || decide (x ∈ ts)) = _
    by_cases q : t = x
    · subst q
      simp
    · have q2 : ¬ x = t := fun e => q e.symm
      simp [q, q2]
theorem pieces_no : ∀ {ts : List Str} {i : Nat} {t : Str}, ts[i]? = some t → pieceO t = none → piecesO ts = none
  | x :: ts, 0, t, h, e => by
    have h : x = t := by simpa using h
    unfold piecesO
    rw [h, e]
  | x :: ts, i + 1, t, h, e => by
    have ih := pieces_no (ts := ts) (i := i) (by simpa using h) e
    unfold piecesO
    rw [ih]
    cases pieceO x <;> rfl
theorem pieces_all : ∀ {ts : List Str}, (∀ t ∈ ts, ∃ b, pieceO t = some b) → ∃ l, piecesO ts = some l ∧ l.length = ts.length ∧ ∀ (i : Nat) t, ts[i]? = some t → ∃ b, pieceO t = some b ∧ l[i]? = some b
  | [], _ => ⟨[], rfl, rfl, fun i t h => by simp at h⟩
  | x :: ts, h => by
    obtain ⟨b, e⟩ := h x (by simp)
    obtain ⟨l, e2, el, a⟩ := pieces_all fun t m => h t (List.mem_cons_of_mem _ m)
    refine ⟨b :: l, by unfold piecesO; rw [e, e2], by simp [el], fun i t hi => ?_⟩
    cases i with
    | zero =>
      have : x = t := by simpa using hi
      exact ⟨b, by rw [← this]; exact e, rfl⟩
    | succ i => simpa using a i t (by simpa using hi)
theorem pieces_len : ∀ {ts : List Str} {l : List Bx}, piecesO ts = some l → l.length = ts.length
  | [], l, h => by
    have h : some [] = some l := h
    rw [← Option.some.inj h]
    rfl
  | t :: ts, l, h => by
    unfold piecesO at h
    cases e : pieceO t with
    | none => rw [e] at h; cases h
    | some b =>
      rw [e] at h
      cases e2 : piecesO ts with
      | none => rw [e2] at h; cases h
      | some bs =>
        rw [e2] at h
        have ih := pieces_len e2
        rw [← Option.some.inj h]
        simp [ih]
theorem pieceW_two {ws : List Str} (h : ws.length = 2) (n : ("" : Str) ∉ ws) : ∃ b : Bx, pieceW ws = some b ∧ ws = [b.1, b.2] := by
  match ws, h with
  | [a, b], _ =>
    refine ⟨(a, b), if_pos ⟨fun e => n (by simp [e]), fun e => n (by simp [e])⟩, rfl⟩
theorem pieceW_len {ws : List Str} (h : ws.length ≠ 2) : pieceW ws = none := by
  unfold pieceW
  split
  · exact absurd rfl h
  · rfl
theorem pieceW_in {ws : List Str} (m : ("" : Str) ∈ ws) : pieceW ws = none := by
  unfold pieceW
  split
  · rename_i a b
    refine if_neg fun z => ?_
    rcases List.mem_cons.mp m with e | m
    · exact z.1 e.symm
    · exact z.2 (List.mem_singleton.mp m).symm
  · rfl
theorem loop5 : tl ("loop " : Str) = [108, 111, 111, 112, 32] := by decide +kernel
theorem cut5 (t : Str) : tl (cutS t none (some 5)) = (tl t).take 5 := by
  show ((t.cps.toList.drop (HT.sIx t.length 0 none)).take (HT.sIx t.length t.length (some ((5 : Nat) : Int)) - HT.sIx t.length 0 none)) = _
  rw [HT.sIx_none, HT.sIx_nat, List.drop_zero, Nat.sub_zero, List.take_eq_take_iff]
  have := len_tl t
  unfold tl at this
  omega
theorem from5 (t : Str) : tl (cutS t (some 5) none) = (tl t).drop 5 := by
  show ((t.cps.toList.drop (HT.sIx t.length 0 (some ((5 : Nat) : Int)))).take (HT.sIx t.length t.length none - HT.sIx t.length 0 (some ((5 : Nat) : Int)))) = _
  rw [HT.sIx_none, HT.sIx_nat]
  have l := len_tl t
  unfold tl at l
  rw [List.take_of_length_le (by rw [List.length_drop]; omega)]
  by_cases c : 5 ≤ t.length
  · rw [Nat.min_eq_left c]
  · rw [Nat.min_eq_right (by omega), List.drop_of_length_le (by omega)]
    exact (List.drop_of_length_le (by unfold tl; omega)).symm
theorem tl_inj {a b : Str} (h : tl a = tl b) : a = b := PyProof.Rows.ext_toList h
theorem starts5 (t : Str) : Txt.startswith t "loop " = decide (cutS t none (some 5) = ("loop " : Str)) := by
  have e : (cutS t none (some 5) = ("loop " : Str)) ↔ (tl t).take 5 = tl ("loop " : Str) := by
    rw [← cut5]
    exact ⟨fun h => by rw [h], fun h => tl_inj h⟩
  have l5 : ("loop " : Str).length = 5 := by decide +kernel
  have sub : Builtin.Str.subAt t "loop " 0 = ((tl t).take 5 == tl ("loop " : Str)) := by
    rw [StrLaws.subAt_eq, List.drop_zero, l5]
  unfold Txt.startswith
  rw [sub, l5]
  by_cases c : (tl t).take 5 = tl ("loop " : Str)
  · rw [decide_eq_true (e.mpr c), c]
    have l := congrArg List.length c
    rw [loop5, List.length_take] at l
    have := len_tl t
    simp only [List.length_cons, List.length_nil] at l
    rw [decide_eq_true (by omega)]
    simp
  · rw [decide_eq_false (fun z => c (e.mp z))]
    have : ((tl t).take 5 == tl ("loop " : Str)) = false := beq_eq_false_iff_ne.mpr c
    rw [this, Bool.and_false]
theorem in_words {ws : List Str} : inV (.str "") (ws.map V.str) = decide (("" : Str) ∈ ws) := in_strs "" ws
theorem ok_read_loop (T : Txt K mg) : FnOk P w K mg base (L2.CX P w) 1 T.a_read_loop T.d_read_loop ["index", "row"] (sp_read_loop K T.CR) := by
  refine T.F_read_loop.okX sc_read_loop (fun vs H Q E h => ?_) (fun cdv A outer s H vs Q E hr h => ?_)
  · obtain ⟨i, t, rfl, _⟩ := h
    rfl
  · obtain ⟨i, t, rfl, lt, k, er⟩ := h
    unfold rowO at k er
    have st := starts5 t
    refine ⟨_, (pss_cons (ps_if (pt_not (pt_val (pe_m1 F.slot_str_startswith F.type_str_startswith mt_startswith (pv 1) (pe_glob (v := V.str "loop ") rfl T.c_LOOP_HEAD ⟨_, rfl⟩))))
        (pss_one (ps_raiseLowR rfl T.lowR hr (takes_of rfl rfl rfl rfl) (by exact (pa_cons (pv 0) (pa_cons pe_str pa_nil)))))
        pss_nil)
      (pss_cons (ps_setLc (i := 2) (own := [("piece", 3)]) (g := gName 3) (tt := tYes) rfl sc_read_loop.nd rfl rfl (sw_true rfl rfl rfl (by decide +kernel)) (pi_list (pe_split (pe_slice sl_str (pv 1) (po_some (pe_callB call_len_str (by rfl) T.z_len PySem.boot_len (pa_cons (pe_glob (v := V.str "loop ") rfl T.c_LOOP_HEAD ⟨_, rfl⟩) pa_nil))) po_none) pe_str)) (blkOk_by (own := [("piece", 3)]) (N := nm_read_loop) (sc := (defScope s_read_loop)) (by decide +kernel)) (fun _ _ _ _ _ => pg_name (i := 3) sc_read_loop.nd rfl (Or.inl rfl)) (fun _ _ _ _ _ => pts_nil) (fun _ _ _ _ _ => (pe_callTy (show CallR _ _ (Kx.rTupOf K) from call_tuple_of) (by rfl) T.z_tuple (by decide +kernel) (pa_cons (pe_split (pv 3) pe_str) pa_nil))))
      (pss_cons (ps_for (passes_of rfl) rfl (pi_list (pv 2)) (pg_name (i := 4) sc_read_loop.nd rfl (Or.inl rfl))
        (pss_one (ps_if (PW.pt (pw_or (pt_cmpR op_ne (pe_callB call_len_seq (by rfl) T.z_len PySem.boot_len (pa_cons (pv 4) pa_nil)) pe_int (nomark _)) (pw_or1 (pt_cmpR op_in_seq pe_str (pv 4) rfl))))
          (pss_one (ps_raiseLowR rfl T.lowR hr (takes_of rfl rfl rfl rfl) (by exact (pa_cons (pv 0) (pa_cons pe_str pa_nil)))))
          pss_nil)))
      (pss_one (ps_ret (pv 2)))))), ?_⟩
    refine ⟨_, rfl, ⟨_, rfl⟩, _, _, rfl, rfl, _, rfl, ?_⟩
    by_cases c : cutS t none (some 5) = ("loop " : Str)
    case neg =>
      rw [if_neg c] at er
      rw [decide_eq_false c] at st
      rw [st]
      exact iteT ⟨_, rfl, _, _, rfl, fun dd hdd => er rfl _ dd (same_new hdd) upd_same⟩
    rw [if_pos c] at k er
    rw [decide_eq_true c] at st
    rw [st]
    refine iteF ?_
    have lr : (cutS t (some 5) none).length ≤ t.length := by
      have e := congrArg List.length (from5 t)
      rw [List.length_drop, ← len_tl, ← len_tl] at e
      omega
    refine ⟨_, rfl, _, rfl, by decide +kernel, _, rfl, _, rfl, small_len (by omega), ?_⟩
    rw [show cutS t (some (("loop " : Str).length : Int)) none = cutS t (some 5) none from congrArg (fun z => cutS t (some z) none) (by decide +kernel)]
    generalize cutS t (some 5) none = r at *
    obtain ⟨w1, w2, w3⟩ := split_bnd (t := r) (b := ", ") (s := [44, 32]) (by decide +kernel) (by simp) (by decide)
    refine ⟨⟨_, rfl⟩, _, _, rfl, rfl, by decide +kernel, small_len (by omega), fun q hq => ?_⟩
    generalize Txt.split r ", " = ts at *
    have s1 := same_new (o := .lst (ts.map V.str)) hq
    have hS : upd H q (.lst (ts.map V.str)) q = some (.lst (ts.map V.str)) := upd_same
    generalize upd H q (.lst (ts.map V.str)) = H1 at *
    refine ⟨q, rfl, ⟨_, SqL.of hS⟩, fun D hD => ?_⟩
    refine Lm.lc_map (K := K) walk_list (fun i y H' => ∃ x, ts[i]? = some x ∧ Dt K H' y (.tuple ((Txt.split x " ").map PyData.str))) (fun _ _ _ _ ⟨b, e, t⟩ kt => ⟨b, e, t.k kt⟩) hD (by rw [List.length_map]; omega) (fun H' s => SqL.of (s _ _ hS)) (fun i x H' hi hx sm Q2 Z q2 => ?_) (fun H2 ys s2 hy ly hR => ?_)
    · rw [List.getElem?_map] at hx
      obtain ⟨y, hy, rfl⟩ := Option.map_eq_some_iff.mp hx
      have ly := w2 y (List.mem_of_getElem? hy)
      refine ⟨rfl, yesT ?_⟩
      refine ⟨_, rfl, ⟨_, rfl⟩, _, _, rfl, rfl, by decide +kernel, small_len (by omega), fun q3 hq3 => ?_⟩
      refine ⟨q3, _, rfl, .inl ⟨SqL.of upd_same, fun u hu => ?_⟩⟩
      exact q2 _ _ ((same_new hq3).trans (same_new hu)) ⟨y, hy, dt_tup upd_same (dts_str _)⟩
    rw [List.length_map] at ly
    have s12 := s1.trans s2
    refine ⟨_, rfl, D, rfl, ⟨_, SqL.of hy⟩, ?_⟩
    refine for_list (xs := ys) (fun j σ H' => ∃ v3 v4, σ = [some (.int i), some (.str t), some (.ref D), v3, v4] ∧ H' = H2 ∧ ∀ x ∈ ts.take j, ∃ b, pieceO x = some b) ⟨_, _, rfl, rfl, by simp⟩ (fun _ σ H' _ h => let ⟨_, _, _, e, _⟩ := h; e ▸ SqL.of hy) (fun j x σ H' hx hP => ?_) (fun σ H' hP => ?_)
    · obtain ⟨v3, v4, rfl, rfl, ok⟩ := hP
      obtain ⟨y, ey, ty⟩ := hR j x hx
      obtain ⟨qb, zs, rfl, hqb, hz⟩ := ty.inv
      have ez := dts_str_inv hz
      subst ez
      have raise : pieceO y = none → ∀ dd, H' dd = none → E (.ref T.CR) (some dd) (upd H' dd (.xd [(("what" : Str), .str "loop"), (("row" : Str), .int i)])) := fun e dd hdd => er (pieces_no ey e) _ dd (s12.trans (same_new hdd)) upd_same
      unfold pieceO at raise
      refine ⟨_, rfl, qb, _, rfl, .inr hqb, rfl, _, rfl, ?_⟩
      by_cases c2 : (Txt.split y " ").length = 2
      case neg => exact iteY (by simp [c2]; omega) (iteT ⟨_, rfl, _, _, rfl, raise (pieceW_len c2)⟩)
      refine iteN (by simp [c2]) ?_
      refine ⟨_, rfl, qb, _, rfl, .inr hqb, rfl, flat_strs _, _, rfl, ?_⟩
      rw [show (if false = true then !inV (.str "") ((Txt.split y " ").map V.str) else inV (.str "") ((Txt.split y " ").map V.str)) = inV (.str "") ((Txt.split y " ").map V.str) from if_neg (by decide), in_words]
      by_cases m : ("" : Str) ∈ Txt.split y " "
      · rw [decide_eq_true m]
        exact iteT ⟨_, rfl, _, _, rfl, raise (pieceW_in m)⟩
      · rw [decide_eq_false m]
        refine iteF ⟨_, _, rfl, rfl, fun x mx => ?_⟩
        rw [List.take_add_one, ey] at mx
        rcases List.mem_append.mp mx with mx | mx
        · exact ok x mx
        · have e : x = y := by simpa using mx
          rw [e]
          obtain ⟨b, hb, _⟩ := pieceW_two c2 m
          exact ⟨b, hb⟩
    · obtain ⟨v3, v4, rfl, rfl, ok⟩ := hP
      rw [ly, List.take_length] at ok
      obtain ⟨l, el, ll, la⟩ := pieces_all ok
      refine ⟨_, rfl, k l el _ _ s12 ⟨D, ys, rfl, hy, dts_of (by rw [List.length_map, ll, ly]) fun j y hj => ?_⟩ fun q0 e0 => by cases e0; exact s1.free hD⟩
      obtain ⟨x, ex, tx⟩ := hR j y hj
      obtain ⟨b, eb, hb⟩ := la j x ex
      refine ⟨bxD b, by rw [List.getElem?_map, hb]; rfl, ?_⟩
      have two : ∃ b' : Bx, pieceW (Txt.split x " ") = some b' ∧ Txt.split x " " = [b'.1, b'.2] := by
        unfold pieceO at eb
        by_cases c2 : (Txt.split x " ").length = 2
        · by_cases m : ("" : Str) ∈ Txt.split x " "
          · rw [pieceW_in m] at eb
            cases eb
          · exact pieceW_two c2 m
        · rw [pieceW_len c2] at eb
          cases eb
      obtain ⟨b', e1, e2⟩ := two
      unfold pieceO at eb
      rw [e1] at eb
      obtain rfl := Option.some.inj eb
      rw [e2] at tx
      exact tx
end
end K10

namespace K10
open PySem L2 Wm TL Dv De
section
variable {P : Program} {w : World} {K : PySem.W.Frag} {mg : Str → Option Value} {base : Heap}
theorem cut_to (t : Str) (k : Nat) : tl (cutS t none (some (k : Int))) = (tl t).take k := by
  show ((t.cps.toList.drop (HT.sIx t.length 0 none)).take (HT.sIx t.length t.length (some (k : Int)) - HT.sIx t.length 0 none)) = _
  rw [HT.sIx_none, HT.sIx_nat, List.drop_zero, Nat.sub_zero, List.take_eq_take_iff]
  have := len_tl t
  unfold tl at this
  omega
theorem cut_from (t : Str) (k : Nat) : tl (cutS t (some (k : Int)) none) = (tl t).drop k := by
  show ((t.cps.toList.drop (HT.sIx t.length 0 (some (k : Int)))).take (HT.sIx t.length t.length none - HT.sIx t.length 0 (some (k : Int)))) = _
  rw [HT.sIx_none, HT.sIx_nat]
  have l := len_tl t
  unfold tl at l
  rw [List.take_of_length_le (by rw [List.length_drop]; omega)]
  by_cases c : k ≤ t.length
  · rw [Nat.min_eq_left c]
  · rw [Nat.min_eq_right (by omega), List.drop_of_length_le (by omega)]
    exact (List.drop_of_length_le (by unfold tl; omega)).symm
theorem S_of_tl {x : Str} {l : List Nat} (h : tl x = l) : x = SX.S l := by
  rw [← h]
  try exact (SX.S_tl x).symm
theorem cutS_to (l : List Nat) (k : Nat) : cutS (SX.S l) none (some (k : Int)) = SX.S (l.take k) := S_of_tl (cut_to _ _)
theorem cutS_from (l : List Nat) (k : Nat) : cutS (SX.S l) (some (k : Int)) none = SX.S (l.drop k) := S_of_tl (cut_from _ _)
theorem pieces_snoc : ∀ {ts : List Str} {l : List Bx} {x : Str} {b : Bx}, piecesO ts = some l → pieceO x = some b → piecesO (ts ++ [x]) = some (l ++ [b])
  | [], l, x, b, h, e => by
    have h : some [] = some l := h
    rw [← Option.some.inj h]
    show piecesO [x] = some [b]
    unfold piecesO
    rw [e]
    rfl
  | t :: ts, l, x, b, h, e => by
    unfold piecesO at h
    cases e1 : pieceO t with
    | none => rw [e1] at h; cases h
    | some c =>
      rw [e1] at h
      cases e2 : piecesO ts with
      | none => rw [e2] at h; cases h
      | some bs =>
        rw [e2] at h
        have ih := pieces_snoc e2 e
        rw [← Option.some.inj h]
        show piecesO (t :: (ts ++ [x])) = _
        unfold piecesO
        rw [e1, ih]
        rfl
theorem ok_pieces (T : Txt K mg) : FnOk P w K mg base CX0 1 T.a_pieces T.d_pieces ["_law_row"] (sp_pieces K) := by
  refine T.F_pieces.ok sc_pieces (fun vs H Q E h => ?_) (fun cdv A outer s H vs Q E hr h => ?_)
  · obtain ⟨t, rfl, _⟩ := h
    rfl
  · obtain ⟨t, rfl, lt, k, kn⟩ := h
    unfold rowO at k kn
    refine ⟨_, (pss_cons (ps_if (pt_cmpR op_ne (pe_slice sl_str (pv 0) po_none (po_some pe_int)) pe_str (nomark _))
        (pss_one (ps_ret pe_non))
        pss_nil)
      (pss_cons (ps_set (i := 1) sc_pieces.nd rfl (Or.inl rfl) (pe_lst pa_nil))
      (pss_cons (ps_for PassesOwn.never rfl (pi_list (pe_split (pe_slice sl_str (pv 0) (po_some pe_int) po_none) pe_str)) (pg_name (i := 2) sc_pieces.nd rfl (Or.inl rfl))
        (pss_cons (ps_set (i := 3) sc_pieces.nd rfl (Or.inl rfl) (pe_m1 F.slot_str_find F.type_str_find mt_find (pv 2) pe_str))
        (pss_cons (ps_if (PW.pt (pw_or (pt_cmpR op_lt (pv 3) pe_int (nomark _)) (pw_or (pt_cmpR op_eq (pv 3) (pe_op op_sub (pe_callB call_len_str (by rfl) T.z_len PySem.boot_len (pa_cons (pv 2) pa_nil)) pe_int) (nomark _)) (pw_or1 (pt_cmpR op_in_sign pe_str (pe_slice sl_str (pv 2) (po_some (pe_op op_add (pv 3) pe_int)) po_none) rfl)))))
          (pss_one (ps_ret pe_non))
          pss_nil)
        (pss_one (ps_expr (pe_bm PySem.F.plainAttrs_list PySem.F.slot_list_append PySem.F.type_list_append mt_append (pv 1) (pa_cons (pe_tup (pa_cons (pe_slice sl_str (pv 2) po_none (po_some (pv 3))) (pa_cons (pe_slice sl_str (pv 2) (po_some (pe_op op_add (pv 3) pe_int)) po_none) pa_nil))) pa_nil)))))))
      (pss_one (ps_ret (pv 1)))))), ?_⟩
    refine ⟨_, rfl, 5, rfl, t, rfl, small_len (by omega), rfl, _, rfl, ?_⟩
    by_cases c : cutS t none (some 5) = ("loop " : Str)
    case neg =>
      rw [if_neg c] at kn
      exact iteY (by simpa using c) (kn rfl _ (Same.refl _))
    refine iteN (by simp [c]) ?_
    rw [if_pos c] at k kn
    refine ⟨by show 0 ≤ sizeLine; decide, fun D hD => ?_⟩
    have lr : (cutS t (some 5) none).length ≤ t.length := by
      have e := congrArg List.length (from5 t)
      rw [List.length_drop, ← len_tl, ← len_tl] at e
      omega
    refine ⟨_, rfl, 5, rfl, _, rfl, small_len (by omega), ?_⟩
    refine ⟨⟨_, rfl⟩, _, _, rfl, rfl, by decide +kernel, small_len (by omega), fun q hq => ?_⟩
    generalize cutS t (some 5) none = r at *
    obtain ⟨w1, w2, w3⟩ := split_bnd (t := r) (b := ", ") (s := [44, 32]) (by decide +kernel) (by simp) (by decide)
    generalize Txt.split r ", " = ts at *
    have hD2 : upd (upd H D (.lst [])) q (.lst (ts.map V.str)) D = some (.lst []) := at_old upd_same hq
    have s2 : Same H (upd (upd H D (.lst [])) q (.lst (ts.map V.str))) := (same_new hD).trans (same_new hq)
    have hS : upd (upd H D (.lst [])) q (.lst (ts.map V.str)) q = some (.lst (ts.map V.str)) := upd_same
    have qD : q ≠ D := fun e => by rw [e, upd_same] at hq; cases hq
    generalize upd (upd H D (.lst [])) q (.lst (ts.map V.str)) = H2 at *
    have back : ∀ {H'}, Off D H2 H' → Same H H' := fun o a u e => o a u (fun z => by rw [z, hD] at e; cases e) (s2 a u e)
    refine ⟨q, rfl, ⟨_, SqL.of hS⟩, ?_⟩
    refine for_list (xs := ts.map V.str) (fun j σ H' => ∃ v2 v3 l ys, σ = [some (.str t), some (.ref D), v2, v3] ∧ Off D H2 H' ∧ piecesO (ts.take j) = some l ∧ H' D = some (.lst ys) ∧ Dts K H' ys (l.map bxD)) ⟨none, none, [], [], rfl, fun _ _ _ h => h, rfl, hD2, .nil⟩ (fun _ σ H' _ h => let ⟨_, _, _, _, _, o, _⟩ := h; SqL.of (o _ _ qD hS)) (fun j x σ H' hx hP => ?_) (fun σ H' hP => ?_)
    · obtain ⟨v2, v3, l, ys, rfl, off, el, hy, hds⟩ := hP
      rw [List.getElem?_map] at hx
      obtain ⟨y, ey, rfl⟩ := Option.map_eq_some_iff.mp hx
      have ly := w2 y (List.mem_of_getElem? ey)
      have jl : j < ts.length := (List.getElem?_eq_some_iff.mp ey).1
      refine ⟨_, rfl, ⟨_, rfl⟩, _, _, rfl, rfl, ?_⟩
      obtain ⟨cs, rfl⟩ : ∃ cs, y = SX.S cs := ⟨tl y, (SX.S_tl y).symm⟩
      have lc : (SX.S cs).length = cs.length := SX.S_len cs
      rw [show (" " : Str) = SX.S [32] from space]
      have none_ : pieceO (SX.S cs) = none → Q .non H' := fun e => kn (pieces_no ey e) _ (back off)
      refine ⟨_, rfl, _, _, rfl, rfl, _, rfl, ?_⟩
      by_cases m : 32 ∈ cs
      case neg =>
        rw [find_no m, decide_eq_true (by decide)]
        exact iteT (iteT (none_ (piece_no m)))
      obtain ⟨p, s, rfl, np⟩ := first_of m
      have pa := piece_at (q := s) np
      rw [find_at np]
      have lps : (p ++ 32 :: s).length = p.length + s.length + 1 := by simp; omega
      by_cases p0 : p = []
      · rw [decide_eq_true (by rw [p0]; decide)]
        rw [if_pos (Or.inl p0)] at pa
        exact iteT (iteT (none_ pa))
      have pl : 1 ≤ p.length := by cases p with | nil => exact absurd rfl p0 | cons a b => simp
      rw [decide_eq_false (by omega)]
      refine iteF ?_
      refine ⟨_, rfl, _, rfl, _, rfl, small_len (by omega), _, _, rfl, rfl, rfl, _, rfl, ?_⟩
      by_cases s0 : s = []
      · rw [show decide (V.int (p.length : Int) = V.int (((SX.S (p ++ 32 :: s)).length : Nat) - 1 : Int)) = true from decide_eq_true (by rw [lc, lps, s0]; congr 1; simp)]
        rw [if_pos (Or.inr (Or.inl s0))] at pa
        exact iteT (iteT (none_ pa))
      have sl : 1 ≤ s.length := by cases s with | nil => exact absurd rfl s0 | cons a b => simp
      rw [show decide (V.int (p.length : Int) = V.int (((SX.S (p ++ 32 :: s)).length : Nat) - 1 : Int)) = false from decide_eq_false (fun z => by have := V.int.inj z; omega)]
      refine iteF ?_
      have cutR : cutS (SX.S (p ++ 32 :: s)) (some ((p.length : Int) + 1)) none = SX.S s := by
        rw [show ((p.length : Int) + 1) = ((p.length + 1 : Nat) : Int) by omega, cutS_from]
        congr 1
        simp
      have cutL : cutS (SX.S (p ++ 32 :: s)) none (some (p.length : Int)) = SX.S p := by
        rw [cutS_to]
        congr 1
        simp
      refine ⟨_, rfl, _, rfl, _, _, rfl, rfl, _, rfl, _, rfl, small_len (by omega), ?_⟩
      rw [cutR]
      refine ⟨32, _, rfl, rfl, _, rfl, ?_⟩
      by_cases ms : 32 ∈ s
      · rw [decide_eq_true (show 32 ∈ (SX.S s).cps.toList from ms)]
        rw [if_pos (Or.inr (Or.inr ms))] at pa
        exact iteT (none_ pa)
      rw [decide_eq_false (show ¬ 32 ∈ (SX.S s).cps.toList from ms)]
      refine iteF ?_
      rw [if_neg (fun z => z.elim p0 fun z => z.elim s0 ms)] at pa
      refine ⟨_, rfl, .inl ⟨rfl, _, SqL.of hy⟩, ?_⟩
      refine ⟨_, rfl, _, rfl, _, rfl, _, rfl, small_len (by omega), _, rfl, _, rfl, _, _, rfl, rfl, _, rfl, _, rfl, small_len (by omega), by show 2 ≤ sizeLine; decide, fun q2 hq2 => ?_⟩
      rw [cutL, cutR]
      have st := same_new (o := .tup [.str (SX.S p), .str (SX.S s)]) hq2
      have nD : q2 ≠ D := fun z => by rw [z, hy] at hq2; cases hq2
      have hy2 := st _ _ hy
      have kt1 : Kt K H' (upd H' q2 (.tup [.str (SX.S p), .str (SX.S s)])) := Kt.new hq2
      have tb : Dt K (upd H' q2 (.tup [.str (SX.S p), .str (SX.S s)])) (.ref q2) (bxD (SX.S p, SX.S s)) := dt_tup upd_same (.cons (.str _) (.cons (.str _) .nil))
      have hds1 := hds.k kt1
      have ll : ys.length ≤ 100000 := by
        have e1 := boxes_len hds
        have e2 := pieces_len el
        rw [List.length_take] at e2
        omega
      generalize upd H' q2 (.tup [.str (SX.S p), .str (SX.S s)]) = H3 at *
      refine ⟨D, ys, _, rfl, rfl, hy2, by have : (100000 : Nat) < sizeLine := by decide
                                          omega, ?_⟩
      have kt2 : Kt K H3 (upd H3 D (.lst (ys ++ [.ref q2]))) := Kt.lst hy2
      refine ⟨_, _, l ++ [(SX.S p, SX.S s)], ys ++ [.ref q2], rfl, (off.trans (Off.of st)).trans Off.set, ?_, upd_same, ?_⟩
      · rw [List.take_add_one, ey]
        exact pieces_snoc el pa
      · rw [List.map_append]
        exact (hds1.k kt2).app (.cons (tb.k kt2) .nil)
    · obtain ⟨v2, v3, l, ys, rfl, off, el, hy, hds⟩ := hP
      rw [List.length_map, List.take_length] at el
      exact ⟨_, rfl, k l el _ _ (back off) ⟨D, ys, rfl, hy, hds⟩ fun q0 e0 => by cases e0; exact hD⟩
end
end K10

namespace K10
open PySem L2 Wm TL Dv De
section
variable {P : Program} {w : World} {K : PySem.W.Frag} {mg : Str → Option Value} {base : Heap}
theorem rows_bad : ∀ {rs : List Str} {i : Nat} {r : Str}, (∀ j, j < i → ∃ r l, rs[j]? = some r ∧ rowO r = some l) → rs[i]? = some r → rowO r = none → rowsO rs = .inl i
  | x :: rs, 0, r, _, h, e => by
    have h : x = r := by simpa using h
    unfold rowsO
    rw [h, e]
  | x :: rs, i + 1, r, a, h, e => by
    obtain ⟨y, l, hy, el⟩ := a 0 (Nat.succ_pos _)
    have hy : x = y := by simpa using hy
    have ih := rows_bad (rs := rs) (i := i) (r := r) (fun j lt => by simpa using a (j + 1) (by omega)) (by simpa using h) e
    unfold rowsO
    rw [hy, el, ih]
theorem rows_all : ∀ {rs : List Str}, (∀ (j : Nat) r, rs[j]? = some r → ∃ l, rowO r = some l) → ∃ ls, rowsO rs = .inr ls ∧ ls.length = rs.length ∧ ∀ (i : Nat) r, rs[i]? = some r → ∃ l, rowO r = some l ∧ ls[i]? = some l
  | [], _ => ⟨[], rfl, rfl, fun i t h => by simp at h⟩
  | x :: rs, a => by
    obtain ⟨l, e⟩ := a 0 x rfl
    obtain ⟨ls, e2, el, b⟩ := rows_all (rs := rs) fun j r h => a (j + 1) r (by simpa using h)
    refine ⟨l :: ls, by unfold rowsO; rw [e, e2], by simp [el], fun i r hi => ?_⟩
    cases i with
    | zero =>
      have : x = r := by simpa using hi
      exact ⟨l, by rw [← this]; exact e, rfl⟩
    | succ i => simpa using b i r (by simpa using hi)
theorem pieces_mem : ∀ {ts : List Str} {l : List Bx} {b : Bx}, piecesO ts = some l → b ∈ l → ∃ t ∈ ts, pieceO t = some b
  | [], l, b, h, m => by
    have h : some [] = some l := h
    rw [← Option.some.inj h] at m
    cases m
  | t :: ts, l, b, h, m => by
    unfold piecesO at h
    cases e : pieceO t with
    | none => rw [e] at h; cases h
    | some c =>
      rw [e] at h
      cases e2 : piecesO ts with
      | none => rw [e2] at h; cases h
      | some bs =>
        rw [e2] at h
        rw [← Option.some.inj h] at m
        rcases List.mem_cons.mp m with rfl | m
        · exact ⟨t, by simp, e⟩
        · obtain ⟨u, mu, eu⟩ := pieces_mem e2 m
          exact ⟨u, List.mem_cons_of_mem _ mu, eu⟩
theorem piece_sz {t : Str} {b : Bx} (h : pieceO t = some b) : b.1.length ≤ t.length ∧ b.2.length ≤ t.length := by
  obtain ⟨_, w2, _⟩ := split_bnd (t := t) (b := " ") (s := [32]) (by decide +kernel) (by simp) (by decide)
  unfold pieceO at h
  by_cases c2 : (Txt.split t " ").length = 2
  · by_cases m : ("" : Str) ∈ Txt.split t " "
    · rw [pieceW_in m] at h
      cases h
    · obtain ⟨b', e1, e2⟩ := pieceW_two c2 m
      rw [e1] at h
      obtain rfl := Option.some.inj h
      exact ⟨w2 _ (by rw [e2]; simp), w2 _ (by rw [e2]; simp)⟩
  · rw [pieceW_len c2] at h
    cases h
theorem row_sz {t : Str} {l : List Bx} (h : rowO t = some l) : 1 ≤ l.length ∧ l.length ≤ t.length + 1 ∧ ∀ b ∈ l, b.1.length ≤ t.length ∧ b.2.length ≤ t.length := by
  unfold rowO at h
  by_cases c : cutS t none (some 5) = ("loop " : Str)
  · rw [if_pos c] at h
    have lr : (cutS t (some 5) none).length ≤ t.length := by
      have e := congrArg List.length (from5 t)
      rw [List.length_drop, ← len_tl, ← len_tl] at e
      omega
    obtain ⟨w1, w2, w3⟩ := split_bnd (t := cutS t (some 5) none) (b := ", ") (s := [44, 32]) (by decide +kernel) (by simp) (by decide)
    have e := pieces_len h
    have ne := List.length_pos_iff.mpr w3
    refine ⟨by omega, by omega, fun b m => ?_⟩
    obtain ⟨u, mu, eu⟩ := pieces_mem h m
    have := piece_sz eu
    have := w2 u mu
    omega
  · rw [if_neg c] at h
    cases h
theorem rows_sz {rs : List Str} {ls : List (List Bx)} {n : Nat} (el : ls.length = rs.length) (a : ∀ (i : Nat) r, rs[i]? = some r → ∃ l, rowO r = some l ∧ ls[i]? = some l) (hr : ∀ r ∈ rs, r.length ≤ n) (hn : n + 1 ≤ 30000) (hl : rs.length ≤ 30000) : Sz 30000 ls ∧ ∀ l ∈ ls, 1 ≤ l.length := by
  have key : ∀ l ∈ ls, ∃ r ∈ rs, rowO r = some l := fun l m => by
    obtain ⟨i, hi⟩ := List.mem_iff_getElem?.mp m
    have il : i < rs.length := by rw [← el]; exact (List.getElem?_eq_some_iff.mp hi).1
    obtain ⟨l', e1, e2⟩ := a i rs[i] (List.getElem?_eq_getElem il)
    rw [hi] at e2
    obtain rfl := Option.some.inj e2
    exact ⟨_, List.getElem_mem il, e1⟩
  refine ⟨⟨by omega, fun l m => ?_, fun l m b mb => ?_⟩, fun l m => ?_⟩
  · obtain ⟨r, mr, e⟩ := key l m
    have := (row_sz e).2.1
    have := hr r mr
    omega
  · obtain ⟨r, mr, e⟩ := key l m
    have := (row_sz e).2.2 b mb
    have := hr r mr
    omega
  · obtain ⟨r, mr, e⟩ := key l m
    exact (row_sz e).1
theorem cutV_tail (x : V) (xs : List V) : cutV (x :: xs) (some 1) none = xs := by
  unfold cutV
  rw [HT.sIx_none, show (some (1 : Int)) = some ((1 : Nat) : Int) from rfl, HT.sIx_nat]
  simp
end
end K10

namespace K10
open PySem L2 Wm TL Dv De
section
variable {P : Program} {w : World} {K : PySem.W.Frag} {mg : Str → Option Value} {base : Heap}
theorem ok_read_town (T : Txt K mg) : FnOk P w K mg base (L2.CX P w) 8 T.a_read_town T.d_read_town ["text"] (sp_read_town K T.C T.CR) := by
  refine T.F_read_town.okX sc_read_town (fun vs H Q E h => ?_) (fun cdv A outer s H vs Q E hr h => ?_)
  · obtain ⟨t, rfl, _⟩ := h
    rfl
  · obtain ⟨t, rfl, lt, k, er⟩ := h
    obtain ⟨w1, w2, w3⟩ := split_bnd (t := t) (b := "\n") (s := [10]) (by decide +kernel) (by simp) (by decide)
    unfold readO at k er
    refine ⟨_, (pss_cons (ps_set (i := 1) sc_read_town.nd rfl (Or.inl rfl) (pe_split (pv 0) pe_str))
      (pss_cons (ps_asg (pe_callS (ok_read_head T) (hr.mono (by decide)) rfl T.g_read_head T.F_read_head.kp T.b_read_head (fun σ => passAt (takes_of rfl rfl rfl rfl) σ) (by exact (pa_cons (pe_ix ix_list (pv 1) pe_int (fun _ _ => rfl)) pa_nil))) (pg_tup rfl (pgs_cons (pg_name (i := 2) sc_read_town.nd rfl (Or.inl rfl)) (pgs_cons (pg_name (i := 3) sc_read_town.nd rfl (Or.inl rfl)) pgs_nil))))
      (pss_cons (Lr2.ps_setLcR (iy := 4) (own := [("index", 5), ("row", 6)]) (g := gTup K 2 (gCons (gName 5) (gCons (gName 6) (gNil)))) (tt := tYes) rfl (takes_of rfl rfl rfl rfl) rfl rfl sc_read_town.nd rfl rfl (sw_true rfl rfl rfl (by decide +kernel)) (Eu.pi_enumS (by rfl) T.z_enumerate (pa_cons (pe_slice sl_list (pv 1) (po_some pe_int) po_none) pa_nil) (pk_cons pe_int pk_nil)) (blkOk_by (own := [("index", 5), ("row", 6)]) (N := nm_read_town) (sc := (defScope s_read_town)) (by decide +kernel)) (fun _ _ _ _ _ => (pg_tup rfl (pgs_cons (pg_name (i := 5) sc_read_town.nd rfl (Or.inl rfl)) (pgs_cons (pg_name (i := 6) sc_read_town.nd rfl (Or.inl rfl)) pgs_nil)))) (fun _ _ _ _ _ => pts_nil) (fun _ _ _ _ _ _ bg => (pe_callS (ok_read_loop T) (hr.mono (by decide)) rfl T.g_read_loop T.F_read_loop.kp T.b_read_loop (fun σ => Lr2.out_pass bg σ) (by exact (pa_cons (pv 5) (pa_cons (pv 6) pa_nil))))))
      (pss_one (Rf.ps_try_asR (i := 7) rfl rfl rfl rfl sc_read_town.nd rfl rfl ⟨rfl, by decide, Or.inl T.lowB.gC⟩ (fun U pn xe tk _ => (pss_one (ps_ret (Kw.pe_makeKS T.mk_init (ok_init T) (hr.mono (by decide)) (by rfl) T.gC T.kb2 (fun σ => L2N.passAt tk σ) (pa_cons (pv 4) pa_nil) (pk_cons (pv 2) (pk_cons (pv 3) pk_nil)))))) (fun a oe cls d pn xe hz hf tkS => (pss_one (Rf.ps_raise_sx (i := 7) hz hf tkS (pmkS_lowR T.lowR (Hw.depth_sx hr) (by exact (pa_cons (L2H.pe_callH (okH_wrong_row T) (L2H.RoomH.mono (Hw.room_sx hr) (by decide)) (Hw.hot_sx hz hf) (by rfl) T.g_wrong_row T.F_wrong_row.kp T.b_wrong_row Hw.passH (by exact (pa_cons (Hw.pe_sx (pe_byLowB T.lowB hz.zc hf (pv 7))) (pa_cons (pv 4) pa_nil)))) (pa_cons (Hw.pe_sx (pe_byLowB T.lowB hz.zc hf (pv 7))) pa_nil)))) rfl rfl)))))))), ?_⟩
    refine ⟨_, rfl, ⟨_, rfl⟩, _, _, rfl, rfl, by decide +kernel, small_len (by omega), fun q hq => ?_⟩
    generalize Txt.split t "\n" = rows at *
    obtain ⟨r0, rs, rfl⟩ := List.exists_cons_of_ne_nil w3
    have s1 := same_new (o := .lst ((r0 :: rs).map V.str)) hq
    have hS : upd H q (.lst ((r0 :: rs).map V.str)) q = some (.lst ((r0 :: rs).map V.str)) := upd_same
    generalize upd H q (.lst ((r0 :: rs).map V.str)) = H1 at *
    have lr0 := w2 r0 (by simp)
    have er0 : readW (r0 :: rs) = match headO r0 with
      | none => .bad 0 "head"
      | some (r, h) => match rowsO rs with
        | .inl i => .bad ((i : Int) + 1) "loop"
        | .inr ls => match townW ls r h with
          | some w => .bad (wrongI w ls) w
          | none => .good ls r h := rfl
    rw [er0] at k er
    refine ⟨_, rfl, q, _, 0, _, rfl, rfl, SqL.of hS, atI_nat (j := 0) rfl, r0, rfl, by omega, fun r h eh H2 q2 s2 hq2 => ?_, fun eh => ?_⟩
    case refine_2 =>
      rw [eh] at er
      exact (er 0 "head" rfl).after s1
    rw [eh] at k er
    dsimp only at k er
    refine ⟨q2, _, rfl, SqT.of hq2, rfl, ?_⟩
    refine ⟨_, _, rfl, _, _, rfl, rfl, ?_⟩
    refine ⟨_, rfl, 1, rfl, q, _, rfl, SqL.of (s2 _ _ hS), fun q3 hq3 => ?_⟩
    rw [show cutV ((r0 :: rs).map V.str) (some 1) none = rs.map V.str from cutV_tail _ _]
    have s3 := same_new (o := .lst (rs.map V.str)) hq3
    have hR3 : upd H2 q3 (.lst (rs.map V.str)) q3 = some (.lst (rs.map V.str)) := upd_same
    generalize upd H2 q3 (.lst (rs.map V.str)) = H3 at *
    have s13 := (s1.trans s2).trans s3
    refine ⟨q3, _, 1, rfl, rfl, by decide, by decide, SqL.of hR3, fun D hD => ?_⟩
    refine lc_it (tt := tYes) Eu.walk_its (fun i H' => Same H3 H' ∧ ∃ ys : List V, ys.length = i ∧ H' D = some (.lst ys) ∧ ∀ (j : Nat) (y : V), ys[j]? = some y → ∃ r l, rs[j]? = some r ∧ rowO r = some l ∧ LpAt K H' y l ∧ y ≠ .ref D)
      ⟨same_new hD, [], rfl, upd_same, fun (j : Nat) (y : V) e => by simp at e⟩ (fun i H' _ h => SqL.of (h.1 _ _ hR3)) (fun i x A A' hi hP hY => ?_) (fun A hP => ?_)
    · obtain ⟨sm, ys, ely, hy, hR⟩ := hP
      obtain ⟨T2, a, b, rfl, hT2, rfl, ea, eb⟩ := hY
      cases ea
      change (rs.map V.str)[i]? = some b at eb
      rw [List.getElem?_map] at eb
      obtain ⟨rw', hrw, rfl⟩ := Option.map_eq_some_iff.mp eb
      have lrw := w2 rw' (List.mem_cons_of_mem _ (List.mem_of_getElem? hrw))
      have sT := same_new (o := .tup [.int (1 + (i : Nat)), .str rw']) hT2
      refine ⟨T2, _, rfl, SqT.of upd_same, rfl, _, _, rfl, _, _, rfl, rfl, rfl, yesT ?_⟩
      generalize upd A T2 (.tup [.int (1 + (i : Nat)), .str rw']) = A1 at *
      have hy1 := sT _ _ hy
      refine ⟨_, rfl, _, rfl, _, rw', rfl, by omega, fun l el H' v s5 hL fr => ?_, fun en => ?_⟩
      · have hy5 := s5 _ _ hy1
        have vD : v ≠ .ref D := fun e => by
          have z := fr D e
          rw [hy1] at z
          cases z
        refine ⟨ys, hy5, by have : (100000 : Nat) < sizeLine := by decide
                            have := (List.getElem?_eq_some_iff.mp hrw).1
                            have := w1
                            simp only [List.length_cons] at this
                            omega, same_mut ((sm.trans sT).trans s5) hD, ys ++ [v], by rw [List.length_append, ely]; rfl, upd_same, fun j y hj => ?_⟩
        have kt : Kt K H' (upd H' D (.lst (ys ++ [v]))) := Kt.lst hy5
        have keepL : ∀ {y l}, LpAt K H' y l → y ≠ .ref D → LpAt K (upd H' D (.lst (ys ++ [v]))) y l := fun {y l} ⟨q, zs, e, hq, hd⟩ ne => ⟨q, zs, e, by rw [upd_ne (fun z => ne (by rw [e, z]))]; exact hq, hd.k kt⟩
        by_cases lj : j < ys.length
        · rw [List.getElem?_append_left lj] at hj
          obtain ⟨r', l', e1, e2, e3, e4⟩ := hR j y hj
          exact ⟨r', l', e1, e2, keepL (e3.k (sT.trans s5)) e4, e4⟩
        · rw [List.getElem?_append_right (by omega)] at hj
          have e0 : j - ys.length = 0 := by
            by_cases z : j - ys.length = 0
            · exact z
            · rw [List.getElem?_eq_none (by rw [List.length_singleton]; omega)] at hj
              cases hj
          rw [e0] at hj
          have ez : v = y := by simpa using hj
          subst ez
          have ej : j = i := by omega
          subst ej
          exact ⟨rw', l, hrw, el, keepL hL vD, vD⟩
      · have e2 : rowsO rs = .inl i := rows_bad (fun j lj => by
          obtain ⟨r', l', e1, e2, _⟩ := hR j ys[j] (List.getElem?_eq_getElem (by omega))
          exact ⟨r', l', e1, e2⟩) hrw en
        rw [e2] at er
        have z := er _ _ rfl
        intro H' d s' e τ _
        refine z _ _ ((s13.trans (sm.trans sT)).trans s') ?_
        rw [e, show (1 : Int) + (i : Nat) = (i : Int) + 1 by omega]
    obtain ⟨sm, ys, ely, hy, hR⟩ := hP
    rw [List.length_map] at ely
    obtain ⟨ls, els, ell, ela⟩ := rows_all (rs := rs) fun j r h => by
      have jl := (List.getElem?_eq_some_iff.mp h).1
      obtain ⟨r', l', e1, e2, _⟩ := hR j ys[j] (List.getElem?_eq_getElem (by omega))
      rw [h] at e1
      obtain rfl := Option.some.inj e1
      exact ⟨l', e2⟩
    rw [els] at k er
    dsimp only at k er
    obtain ⟨sz, _⟩ := rows_sz (n := 20000) ell ela (fun r m => by have := w2 r (List.mem_cons_of_mem _ m); omega) (by omega) (by simp only [List.length_cons] at w1; omega)
    have hL : LpsAt K A D ls := ⟨ys, hy, by rw [ely, ell], fun i v hv => by
      obtain ⟨r', l', e1, e2, e3, _⟩ := hR i v hv
      obtain ⟨l2, e4, e5⟩ := ela i r' e1
      rw [e2] at e4
      obtain rfl := Option.some.inj e4
      exact ⟨l', e5, e3⟩⟩
    have s1A := s13.trans sm
    refine ⟨_, rfl, _, rfl, _, rfl, rfl, rfl, fun x dx hx hdx nx => ?_⟩
    have sX : Same A (upd (upd A dx (.own x)) x (.ins T.C dx [])) := (same_new hdx).trans (same_new (by rw [upd_ne (Ne.symm nx)]; exact hx))
    have sY := s1A.trans sX
    have nx0 : H x = none := by
      cases e : H x with
      | none => rfl
      | some o => rw [s1A _ _ e] at hx; cases hx
    refine ⟨x, D, dx, ls, r, h, rfl, upd_same, hL.k sX, sz, fun cn H8 off hT => ⟨rfl, ?_⟩, fun wd cn H8 d8 s8 h8 => ?_⟩
    · rw [cn] at k
      refine k ls r h rfl H8 x (fun a o e => off a o (fun z => ?_) (sY _ _ e)) hT
      rw [z, nx0] at e
      cases e
    · rw [cn] at er
      have lok : wd ≠ "loops" → loopsOk ls = true := fun ne => by
        cases c : loopsOk ls with
        | true => rfl
        | false =>
          unfold townW loopW at cn
          rw [if_pos c] at cn
          exact absurd (Option.some.inj cn).symm ne
      refine ⟨T.lowB.te, fun a na => ⟨T.lowB.exC, rfl, ?_⟩⟩
      refine ⟨_, rfl, rfl, rfl, d8, _, rfl, h8, _, rfl, wd, D, ls, rfl, hL.k (sX.trans s8), sz, lok, fun H9 s9 => ?_⟩
      refine ⟨_, rfl, rfl, rfl, d8, _, rfl, s9 _ _ h8, _, _, rfl, fun d9 h9 => ?_⟩
      exact er _ _ rfl _ d9 (((sY.trans s8).trans s9).trans (same_new h9)) upd_same
end
end K10

namespace K10
open PySem L2 Wm TL Dv De
section
variable {P : Program} {w : World} {K : PySem.W.Frag} {mg : Str → Option Value} {base : Heap}
theorem cut_some (ns : List Int) (hi : Option Int) : ∃ m, cutV (ns.map V.int) none hi = (ns.take m).map V.int := by
  refine ⟨HT.sIx (ns.map V.int).length (ns.map V.int).length hi - HT.sIx (ns.map V.int).length 0 none, ?_⟩
  unfold cutV
  rw [HT.sIx_none, List.drop_zero, List.map_take]
theorem ok_bag (T : Txt K mg) : FnOk P w K mg base CX0 1 T.a_bag T.d_bag ["_law_script"] (sp_bag K) := by
  refine T.F_bag.ok sc_bag (fun vs H Q E h => ?_) (fun cdv A outer s H vs Q E hr h => ?_)
  · obtain ⟨a, ns, rfl, _⟩ := h
    rfl
  · obtain ⟨a, ns, rfl, hS, hlen, k⟩ := h
    refine ⟨_, (pss_cons (ps_setLc (i := 1) (own := [("_law_cell", 2)]) (g := gName 2) (tt := tYes) rfl sc_bag.nd rfl rfl (sw_true rfl rfl rfl (by decide +kernel)) (pi_list (pe_slice sl_list (pv 0) po_none (po_some pe_int))) (blkOk_by (own := [("_law_cell", 2)]) (N := nm_bag) (sc := (defScope s_bag)) (by decide +kernel)) (fun _ _ _ _ _ => pg_name (i := 2) sc_bag.nd rfl (Or.inl rfl)) (fun _ _ _ _ _ => pts_nil) (fun _ _ _ _ _ => (pe_ifExp (pt_cmpR op_ge (pv 2) pe_int (nomark _)) (pv 2) (pe_op op_sub pe_int (pv 2)))))
      (pss_one (ps_ret (pe_lst (pa_cons pe_int (pa_cons (pv 1) (pa_cons pe_int (pa_cons pe_int (pa_cons pe_int pa_nil))))))))), ?_⟩
    refine ⟨.ref a, rfl, 63, rfl, a, _, rfl, hS, fun p hp => ?_⟩
    obtain ⟨m, em⟩ := cut_some ns (some 63)
    rw [em]
    have hml : (ns.take m).length ≤ 63 := by rw [List.length_take]; omega
    generalize ns.take m = ms at hml
    refine ⟨p, rfl, ⟨_, SqL.of upd_same⟩, fun D hD => ?_⟩
    refine lc_list (xs := ms.map V.int) (fun i H' => Same (upd H p (.lst (ms.map V.int))) H' ∧ ∃ qs : List Int, qs.length = i ∧ H' D = some (.lst (qs.map V.int))) ⟨same_new hD, [], rfl, upd_same⟩ (fun i H2 _ hP => SqL.of (hP.1 _ _ upd_same)) (fun i x H2 hx hP => ?_) (fun H2 hP => ?_)
    · obtain ⟨sm, qs, eq, hq⟩ := hP
      have hi : i < ms.length := by
        have := (List.getElem?_eq_some_iff.mp hx).1
        rw [List.length_map] at this
        exact this
      have ex : x = .int ms[i] := by
        rw [List.getElem?_map, List.getElem?_eq_getElem hi] at hx
        exact (Option.some.inj hx).symm
      subst ex
      have small : (qs.map V.int).length < sizeLine := by rw [List.length_map]; exact small1000 (by omega)
      refine ⟨rfl, yesT ?_⟩
      refine ⟨_, rfl, _, _, rfl, rfl, _, rfl, ite2 (fun _ => ?_) (fun _ => ?_)⟩
      · exact ⟨_, rfl, _, hq, small, same_mut sm hD, qs ++ [ms[i]], by rw [List.length_append, eq]; rfl, by rw [upd_same, List.map_append]; rfl⟩
      · exact ⟨_, rfl, _, _, rfl, rfl, _, hq, small, same_mut sm hD, qs ++ [1 - ms[i]], by rw [List.length_append, eq]; rfl, by rw [upd_same, List.map_append]; rfl⟩
    · obtain ⟨sm, qs, eq, hq⟩ := hP
      refine ⟨_, rfl, by show 5 ≤ sizeLine; decide, fun b hb => ?_⟩
      refine k _ b (((same_new hp).trans sm).trans (same_new hb)) ⟨D, 0, 0, 0, 20261, qs, upd_same, at_old hq hb, by decide, by decide, by decide⟩
theorem fmod_in {x l : Int} (h : 0 < l) : 0 ≤ x.fmod l ∧ x.fmod l < l := by
  rw [Int.fmod_eq_emod_of_nonneg x (Int.le_of_lt h)]
  exact ⟨Int.emod_nonneg x (by omega), Int.emod_lt_of_pos x h⟩
theorem ok_draw (T : Txt K mg) : FnOk P w K mg base CX0 1 T.a_draw T.d_draw ["_law_bag_here", "_law_limit"] (sp_draw K) := by
  refine T.F_draw.ok sc_draw (fun vs H Q E h => ?_) (fun cdv A outer s H vs Q E hr h => ?_)
  · obtain ⟨b, n, lim, rfl, _⟩ := h
    rfl
  · obtain ⟨b, n, lim, rfl, l0, l1, ⟨c, x, k, m, z, ns, hb, hc, k0, m0, mn⟩, hn, kk⟩ := h
    have hcb := bag_ne hb hc
    refine ⟨_, (C8.pss_cut (ps_if (PW.pt (pw_and (pt_cmpR op_lt (pe_ix ix_list (pv 0) pe_int (fun _ _ => rfl)) (pe_op op_pow pe_int pe_int) (nomark _)) (pw_and1 (pt_cmpR op_lt (pe_ix ix_list (pv 0) pe_int (fun _ _ => rfl)) (pe_callB call_len_seq (by rfl) T.z_len PySem.boot_len (pa_cons (pe_ix ix_list (pv 0) pe_int (fun _ _ => rfl)) pa_nil)) (nomark _)))))
        (pss_cons (ps_asg (pe_ix ix_list (pe_ix ix_list (pv 0) pe_int (fun _ _ => rfl)) (pe_ix ix_list (pv 0) pe_int (fun _ _ => rfl)) (fun _ _ => rfl)) (pg_sub (pv 0) pe_int set_list))
        (pss_one (ps_asg (pe_op op_add (pe_ix ix_list (pv 0) pe_int (fun _ _ => rfl)) pe_int) (pg_sub (pv 0) pe_int set_list))))
        pss_nil)
      (pss_cons (ps_if (pt_cmpR op_ge (pe_ix ix_list (pv 0) pe_int (fun _ _ => rfl)) (pe_op op_pow pe_int pe_int) (nomark _))
        (pss_cons (ps_set (i := 2) sc_draw.nd rfl (Or.inl rfl) (pe_op op_modN (pe_callTy call_int1 (by rfl) T.z_int (by decide +kernel) (pa_cons (pe_ix ix_list (pv 0) pe_int (fun _ _ => rfl)) pa_nil)) (pv 1)))
        (pss_cons (ps_asg (pe_op op_fdivW (pe_callTy call_int1 (by rfl) T.z_int (by decide +kernel) (pa_cons (pe_ix ix_list (pv 0) pe_int (fun _ _ => rfl)) pa_nil)) (pv 1)) (pg_sub (pv 0) pe_int set_list))
        (pss_one (ps_ret (pv 2)))))
        pss_nil)
      (pss_cons (ps_asg (pe_op op_add (pe_ix ix_list (pv 0) pe_int (fun _ _ => rfl)) pe_int) (pg_sub (pv 0) pe_int set_list))
      (pss_cons (ps_asg (pe_op op_modN (pe_callTy call_int1 (by rfl) T.z_int (by decide +kernel) (pa_cons (pe_op op_add (pe_op op_add (pe_op op_mul (pe_ix ix_list (pv 0) pe_int (fun _ _ => rfl)) pe_int) (pe_op op_mul (pe_op op_modN (pe_callTy call_int1 (by rfl) T.z_int (by decide +kernel) (pa_cons (pe_ix ix_list (pv 0) pe_int (fun _ _ => rfl)) pa_nil)) pe_int) pe_int)) (pe_op op_mul (pe_ix ix_list (pv 0) pe_int (fun _ _ => rfl)) pe_int)) pa_nil)) pe_int) (pg_sub (pv 0) pe_int set_list))
      (pss_one (ps_ret (pe_op op_modN (pe_op op_fdivN (pe_op op_modN (pe_callTy call_int1 (by rfl) T.z_int (by decide +kernel) (pa_cons (pe_op op_add (pe_op op_mul (pe_ix ix_list (pv 0) pe_int (fun _ _ => rfl)) pe_int) (pe_op op_mul (pe_ix ix_list (pv 0) pe_int (fun _ _ => rfl)) (pe_ix ix_list (pv 0) pe_int (fun _ _ => rfl)))) pa_nil)) pe_int) pe_int) (pv 1)))))))), ?_⟩
    refine ⟨fun σ H1 => ∃ x k : Int, σ = [some (.ref b), some (.int lim), none] ∧ 0 ≤ k ∧ But b H H1 ∧ H1 b = some (.lst [.int x, .ref c, .int k, .int m, .int z]), ?_, ?_⟩
    · refine ⟨_, rfl, b, _, 0, _, rfl, rfl, SqL.of hb, atI_nat (j := 0) rfl, _, _, rfl, rfl, ⟨by decide, by decide, by decide⟩, _, _, rfl, rfl, _, rfl, ite2 (fun h1 => ?_) (fun h1 => ?_)⟩
      · refine ⟨_, rfl, b, _, 2, _, rfl, rfl, SqL.of hb, atI_nat (j := 2) rfl, _, rfl, b, _, 1, _, rfl, rfl, SqL.of hb, atI_nat (j := 1) rfl, c, _, rfl, .inl (SqL.of hc), _, _, rfl, rfl, _, rfl, ite2 (fun h2 => ?_) (fun h2 => ?_)⟩
        · have h3 := of_decide_eq_true h2
          rw [List.length_map] at h3
          have h4 : k.toNat < ns.length := by omega
          have g : (ns.map V.int)[k.toNat]? = some (.int ns[k.toNat]) := by rw [List.getElem?_map, List.getElem?_eq_getElem h4]; rfl
          refine ⟨_, rfl, b, _, 1, _, rfl, rfl, SqL.of hb, atI_nat (j := 1) rfl, _, rfl, b, _, 2, _, rfl, rfl, SqL.of hb, atI_nat (j := 2) rfl, c, _, k, _, rfl, rfl, SqL.of hc, at_of (by omega) g, ?_⟩
          refine ⟨_, rfl, b, _, 0, 0, rfl, rfl, hb, rfl, ?_⟩
          refine ⟨_, rfl, b, _, 2, _, rfl, rfl, SqL.of upd_same, atI_nat (j := 2) rfl, _, _, rfl, rfl, ?_⟩
          refine ⟨_, rfl, b, _, 2, 2, rfl, rfl, upd_same, rfl, ?_⟩
          exact ⟨_, _, rfl, by omega, But.trans (But.set hb) (But.set upd_same), upd_same⟩
        · exact ⟨x, k, rfl, k0, But.refl _ _, hb⟩
      · exact ⟨x, k, rfl, k0, But.refl _ _, hb⟩
    · rintro σ H1 ⟨x, k, rfl, k0, but, hb⟩
      have hc1 : H1 c = some (.lst (ns.map V.int)) := but _ _ hcb hc
      refine ⟨_, rfl, b, _, 0, _, rfl, rfl, SqL.of hb, atI_nat (j := 0) rfl, _, _, rfl, rfl, ⟨by decide, by decide, by decide⟩, _, _, rfl, rfl, _, rfl, ite2 (fun h1 => ?_) (fun h1 => ?_)⟩
      · refine ⟨_, rfl, b, _, 0, _, rfl, rfl, SqL.of hb, atI_nat (j := 0) rfl, .inl ⟨_, rfl, _, rfl, _, _, rfl, rfl, by omega, ?_⟩⟩
        refine ⟨_, rfl, b, _, 0, _, rfl, rfl, SqL.of hb, atI_nat (j := 0) rfl, .inl ⟨_, rfl, _, rfl, _, _, rfl, rfl, wide_div l0 (b := 100) (by omega) (by decide) (by decide), ?_⟩⟩
        refine ⟨_, rfl, b, _, 0, 0, rfl, rfl, hb, rfl, ?_⟩
        refine ⟨_, rfl, kk _ _ (fmod_in l0).1 (fmod_in l0).2 ⟨c, _, k, m, z, ns, upd_same, ?_, k0, m0, by omega⟩ (but.trans (But.set hb))⟩
        rw [upd_ne hcb]
        exact hc1
      · refine ⟨_, rfl, b, _, 3, _, rfl, rfl, SqL.of hb, atI_nat (j := 3) rfl, _, _, rfl, rfl, ?_⟩
        refine ⟨_, rfl, b, _, 3, 3, rfl, rfl, hb, rfl, ?_⟩
        -- the two reckonings
        refine ⟨_, rfl, b, _, 4, _, rfl, rfl, SqL.of upd_same, atI_nat (j := 4) rfl, _, _, rfl, rfl, .inr ⟨by decide, by decide⟩, ?_⟩
        refine ⟨_, rfl, b, _, 0, _, rfl, rfl, SqL.of upd_same, atI_nat (j := 0) rfl, .inl ⟨_, rfl, _, _, rfl, rfl, by omega, _, _, rfl, rfl, .inr ⟨by decide, by decide⟩, _, _, rfl, rfl, ?_⟩⟩
        refine ⟨_, rfl, b, _, 3, _, rfl, rfl, SqL.of upd_same, atI_nat (j := 3) rfl, _, _, rfl, rfl, .inr ⟨by decide, by decide⟩, _, _, rfl, rfl, .inl ⟨_, rfl, _, _, rfl, rfl, by omega, ?_⟩⟩
        refine ⟨_, rfl, b, _, 4, 4, rfl, rfl, upd_same, rfl, ?_⟩
        refine ⟨_, rfl, b, _, 4, _, rfl, rfl, SqL.of upd_same, atI_nat (j := 4) rfl, _, _, rfl, rfl, .inr ⟨by decide, by decide⟩, ?_⟩
        refine ⟨_, rfl, b, _, 3, _, rfl, rfl, SqL.of upd_same, atI_nat (j := 3) rfl, _, rfl, b, _, 3, _, rfl, rfl, SqL.of upd_same, atI_nat (j := 3) rfl, _, _, rfl, rfl, .inl ⟨by omega, by omega⟩, _, _, rfl, rfl, .inl ⟨_, rfl, _, _, rfl, rfl, by omega, _, _, rfl, rfl, ⟨by decide, by decide⟩, _, rfl, _, _, rfl, rfl, by omega, ?_⟩⟩
        refine kk _ _ (fmod_in l0).1 (fmod_in l0).2 ⟨c, x, k, m + 1, _, ns, upd_same, ?_, k0, by omega, by omega⟩ ((but.trans (But.set hb)).trans (But.set upd_same))
        rw [upd_ne hcb, upd_ne hcb]
        exact hc1
theorem dig_log {d : Nat} (h : 1 ≤ d ∧ d ≤ 9) : ((d : Int)).natAbs.log2 < 1920 := by
  rcases dig_cases h with e | e | e | e | e | e | e | e | e <;> subst e <;> decide +kernel
theorem top_at {way : Int} (h0 : 0 ≤ way) (h1 : way < 6) : ∃ top : Int, atI [V.int 3, V.int 3, V.int 3, V.int 3, V.int 9, V.int 9] way = some (.int top) ∧ 3 ≤ top ∧ top ≤ 9 := by
  have c : way = 0 ∨ way = 1 ∨ way = 2 ∨ way = 3 ∨ way = 4 ∨ way = 5 := by omega
  rcases c with e | e | e | e | e | e <;> subst e
  · exact ⟨3, rfl, by decide, by decide⟩
  · exact ⟨3, rfl, by decide, by decide⟩
  · exact ⟨3, rfl, by decide, by decide⟩
  · exact ⟨3, rfl, by decide, by decide⟩
  · exact ⟨9, rfl, by decide, by decide⟩
  · exact ⟨9, rfl, by decide, by decide⟩
theorem sum_snoc (ds : List Nat) (d : Nat) : (ds ++ [d]).sum = ds.sum + d := by
  rw [List.sum_append]
  simp
theorem len_snoc (ds : List Nat) (d : Nat) : (ds ++ [d]).length = ds.length + 1 := by simp
theorem dig_snoc {ds : List Nat} {d : Nat} (h : ∀ y ∈ ds, 1 ≤ y ∧ y ≤ 9) (g : 1 ≤ d ∧ d ≤ 9) : ∀ y ∈ ds ++ [d], 1 ≤ y ∧ y ≤ 9 := fun y m => by
  rcases List.mem_append.mp m with m | m
  · exact h y m
  · rw [List.mem_singleton.mp m]
    exact g
theorem ok_number (T : Txt K mg) : FnOk P w K mg base CX0 2 T.a_number T.d_number ["_law_bag_here"] (sp_number K) := by
  refine T.F_number.ok sc_number (fun vs H Q E h => ?_) (fun cdv A outer s H vs Q E hr h => ?_)
  · obtain ⟨b, n, rfl, _⟩ := h
    rfl
  · obtain ⟨b, n, rfl, hbag, hn, kk⟩ := h
    refine ⟨_, (pss_cons (ps_set (i := 1) sc_number.nd rfl (Or.inl rfl) (pe_op op_add pe_int (pe_call (ok_draw T) (hr.mono (by decide)) (by rfl) T.g_draw T.F_draw.kp T.b_draw .nil pass0 (pa_cons (pv 0) (pa_cons pe_int pa_nil)))))
      (pss_cons (ps_set (i := 2) sc_number.nd rfl (Or.inl rfl) (pe_call (ok_draw T) (hr.mono (by decide)) (by rfl) T.g_draw T.F_draw.kp T.b_draw .nil pass0 (pa_cons (pv 0) (pa_cons pe_int pa_nil))))
      (pss_cons (ps_set (i := 3) sc_number.nd rfl (Or.inl rfl) (pe_ix ix_list (pe_lst (pa_cons pe_int (pa_cons pe_int (pa_cons pe_int (pa_cons pe_int (pa_cons pe_int (pa_cons pe_int pa_nil))))))) (pv 2) (fun _ _ => rfl)))
      (pss_cons (ps_set (i := 4) sc_number.nd rfl (Or.inl rfl) pe_str)
      (pss_cons (ps_set (i := 5) sc_number.nd rfl (Or.inl rfl) pe_int)
      (pss_cons (ps_for PassesOwn.never rfl (pi_range1 (by rfl) T.z_range (pa_cons (pv 1) pa_nil)) (pg_name (i := 6) sc_number.nd rfl (Or.inl rfl))
        (pss_cons (ps_set (i := 7) sc_number.nd rfl (Or.inl rfl) (pe_op op_add pe_int (pe_call (ok_draw T) (hr.mono (by decide)) (by rfl) T.g_draw T.F_draw.kp T.b_draw .nil pass0 (pa_cons (pv 0) (pa_cons (pe_callB (call_min2 rfl) (by rfl) T.z_min (by decide +kernel) (pa_cons (pv 3) (pa_cons (pe_op op_sub (pv 5) (pe_op op_sub (pe_op op_sub (pv 1) pe_int) (pv 6))) pa_nil))) pa_nil)))))
        (C8.pss_cut (ps_if (PW.pt (pw_and (pt_cmpR op_eq (pv 2) pe_int (nomark _)) (pw_and1 (pt_cmpR op_eq (pv 6) (pe_op op_sub (pv 1) pe_int) (nomark _)))))
          (pss_one (ps_set (i := 7) sc_number.nd rfl (Or.inl rfl) (pe_callB (call_min2 rfl) (by rfl) T.z_min (by decide +kernel) (pa_cons pe_int (pa_cons (pv 5) pa_nil)))))
          pss_nil)
        (pss_cons (ps_set (i := 4) sc_number.nd rfl (Or.inl rfl) (pe_op op_add_str (pv 4) (pe_callTy call_str_int (by rfl) T.z_str (by decide +kernel) (pa_cons (pv 7) pa_nil))))
        (pss_one (ps_set (i := 5) sc_number.nd rfl (Or.inl rfl) (pe_op op_sub (pv 5) (pv 7))))))))
      (pss_one (ps_ret (pv 4))))))))), ?_⟩
    refine ⟨_, rfl, b, n, 4, rfl, by decide, by decide, hbag, by omega, fun H1 d1 g0 g1 bag1 but1 => ?_⟩
    refine ⟨_, _, rfl, rfl, ?_⟩
    refine ⟨_, rfl, b, n + 1, 6, rfl, by decide, by decide, bag1, by omega, fun H2 way w0 w1 bag2 but2 => ?_⟩
    obtain ⟨top, et, t3, t9⟩ := top_at w0 w1
    refine ⟨by show 6 ≤ sizeLine; decide, fun t ht => ?_⟩
    refine ⟨_, rfl, t, _, _, _, rfl, rfl, SqL.of upd_same, et, ?_⟩
    have bag3 := bag2.keep (same_new (o := .lst [V.int 3, V.int 3, V.int 3, V.int 3, V.int 9, V.int 9]) ht)
    have but3 : But b H (upd H2 t (.lst [V.int 3, V.int 3, V.int 3, V.int 3, V.int 9, V.int 9])) := (but1.trans but2).trans (But.of (same_new ht))
    obtain ⟨many, em⟩ : ∃ many : Nat, (1 : Int) + d1 = (many : Nat) := ⟨(1 + d1).toNat, by omega⟩
    try dsimp only
    rw [em]
    have m1 : 1 ≤ many := by omega
    have m4 : many ≤ 4 := by omega
    refine ⟨_, rfl, _, rfl, by omega, by omega, ?_⟩
    rw [Int.toNat_natCast]
    refine for_range (fun i σ H' => ∃ (ds : List Nat) (vk vd : Option V), σ = [some (.ref b), some (.int (many : Nat)), some (.int way), some (.int top), some (.str (numS ds)), some (.int (24 - (ds.sum : Nat))), vk, vd] ∧
      ds.length = i ∧ (∀ d ∈ ds, 1 ≤ d ∧ d ≤ 9) ∧ ds.sum + (many - i) ≤ 24 ∧ Bag H' b (n + 2 + i) ∧ But b H H')
      ⟨[], none, none, by rw [numS_nil]; rfl, rfl, fun _ m => absurd m (List.not_mem_nil), by show 0 + (many - 0) ≤ 24; omega, bag3, but3⟩ (fun i σ H' hi hP => ?_) (fun σ H' hP => ?_)
    · obtain ⟨ds, vk, vd, rfl, el, hd, hs, bag, but⟩ := hP
      have eL : ((24 : Int) - (ds.sum : Nat)) - ((many : Nat) - 1 - (0 + (i : Nat))) = ((24 - ds.sum - (many - 1 - i) : Nat) : Int) := by omega
      -- the digit's draw
      refine ⟨_, rfl, _, rfl, _, rfl, _, rfl, _, _, rfl, rfl, _, rfl, _, _, rfl, rfl, _, _, rfl, rfl, _, _, rfl, ?_⟩
      (try dsimp only; rw [eL])
      generalize hlim : (if ((24 - ds.sum - (many - 1 - i) : Nat) : Int) < top then ((24 - ds.sum - (many - 1 - i) : Nat) : Int) else top) = lim
      have lim1 : 1 ≤ lim ∧ lim ≤ 9 ∧ lim ≤ ((24 - ds.sum - (many - 1 - i) : Nat) : Int) := by
        rw [← hlim]
        split <;> omega
      refine ⟨b, n + 2 + i, lim, rfl, by omega, by omega, bag, by omega, fun H3 g q0 q1 bag4 but4 => ?_⟩
      refine ⟨_, _, rfl, rfl, ?_⟩
      refine ⟨fun σ H4 => ∃ d : Nat, σ = [some (.ref b), some (.int (many : Nat)), some (.int way), some (.int top), some (.str (numS ds)), some (.int (24 - (ds.sum : Nat))), some (.int (0 + (i : Nat))), some (.int (d : Nat))] ∧
        (1 ≤ d ∧ d ≤ 9) ∧ ds.sum + d + (many - 1 - i) ≤ 24 ∧ H4 = H3, ?_, ?_⟩
      · have mid : ∃ d : Nat, (1 : Int) + g = (d : Nat) ∧ (1 ≤ d ∧ d ≤ 9) ∧ ds.sum + d + (many - 1 - i) ≤ 24 := ⟨(1 + g).toNat, by omega, by omega, by omega⟩
        obtain ⟨d, ed, hd9, hsum⟩ := mid
        (try dsimp only; rw [ed])
        refine ⟨_, rfl, rfl, _, rfl, ite2 (fun c1 => ?_) (fun c1 => ?_)⟩
        · refine ⟨_, rfl, _, rfl, _, _, rfl, rfl, rfl, _, rfl, ite2 (fun c2 => ?_) (fun c2 => ?_)⟩
          · refine ⟨_, rfl, _, _, rfl, ?_⟩
            have e2 : (0 : Int) + (i : Nat) = (many : Nat) - 1 := V.int.inj (of_decide_eq_true c2)
            have q : ∃ e : Nat, (if ((24 : Int) - (ds.sum : Nat)) < 9 then ((24 : Int) - (ds.sum : Nat)) else 9) = (e : Nat) ∧ (1 ≤ e ∧ e ≤ 9) ∧ ds.sum + e + (many - 1 - i) ≤ 24 := by
              split
              · exact ⟨24 - ds.sum, by omega, by omega, by omega⟩
              · exact ⟨9, rfl, by omega, by omega⟩
            obtain ⟨e, ee, he9, hes⟩ := q
            (try dsimp only; rw [ee])
            exact ⟨e, rfl, he9, hes, rfl⟩
          · exact ⟨d, rfl, hd9, hsum, rfl⟩
        · exact ⟨d, rfl, hd9, hsum, rfl⟩
      · rintro σ H4 ⟨d, rfl, hd9, hsum, rfl⟩
        refine ⟨_, rfl, _, rfl, _, rfl, dig_log hd9, _, _, rfl, rfl, ?_, ?_⟩
        · rw [dig_str hd9, numS_len, numS_len]
          exact Nat.le_of_lt (small1000 (by show ds.length + 1 ≤ 1000; omega))
        rw [dig_str hd9, numS_app]
        refine ⟨_, rfl, _, rfl, _, _, rfl, rfl, ?_⟩
        have e3 : (24 : Int) - (ds.sum : Nat) - (d : Nat) = 24 - ((ds ++ [d]).sum : Nat) := by rw [sum_snoc]; omega
        (try dsimp only; rw [e3])
        exact ⟨ds ++ [d], _, _, rfl, by rw [len_snoc, el], dig_snoc hd hd9, by rw [sum_snoc]; omega, bag4, but.trans but4⟩
    · obtain ⟨ds, vk, vd, rfl, el, hd, hs, bag, but⟩ := hP
      refine ⟨_, rfl, kk _ ds ⟨by omega, by omega, hd, by omega⟩ (bag.mono (by omega)) but⟩
end
end K10

namespace K10
open PySem L2 Wm TL Dv De
section
variable {P : Program} {w : World} {K : PySem.W.Frag} {mg : Str → Option Value} {base : Heap}
theorem walk_rngL {lo : Int} {n : Nat} : Walk (Itr lo n) n (fun _ => True) (YAt ((List.range n).map fun (i : Nat) => V.int (lo + (i : Int)))) :=
  walk_range.mono (fun _ h => h) fun i H x H' hi _ y => ⟨y.1, by rw [List.getElem?_map, List.getElem?_range hi, y.2]; rfl⟩
theorem nodup_le {α : Type} [DecidableEq α] : ∀ (l D : List α), l.Nodup → (∀ x ∈ l, x ∈ D) → l.length ≤ D.length
  | [], _, _, _ => Nat.zero_le _
  | x :: l, D, hn, hs => by
    obtain ⟨h1, h2⟩ := List.nodup_cons.mp hn
    have hx : x ∈ D := hs x List.mem_cons_self
    have ih := nodup_le l (D.erase x) h2 fun y hy => by
      have hne : y ≠ x := fun e => h1 (e ▸ hy)
      exact (List.mem_erase_of_ne hne).2 (hs y (List.mem_cons_of_mem _ hy))
    have e := List.length_erase_of_mem hx
    have hp : 0 < D.length := List.length_pos_of_mem hx
    rw [List.length_cons]
    omega
def poolN (k : Nat) : List Nat := [k / 9 + 1, k % 9 + 1]
def pool : List Str := (List.range 81).map fun k => numS (poolN k)
theorem pool_str : ∀ k : Nat, k < 81 → Str.ofString (toString ((11 : Int) + (k : Int) + ((k : Int).fdiv 9))) = numS (poolN k) := by decide +kernel
theorem pool_small : ∀ k : Nat, k < 81 → ((11 : Int) + (k : Int) + ((k : Int).fdiv 9)).natAbs.log2 < 1920 := by decide +kernel
theorem pool_nd : pool.Nodup := by decide +kernel
theorem pool_len : pool.length = 81 := by unfold pool; rw [List.length_map, List.length_range]
theorem pool_num {k : Nat} (h : k < 81) : Num (poolN k) := ⟨by show 1 ≤ 2; omega, by show 2 ≤ 4; omega, fun d m => by
  rcases List.mem_cons.mp m with e | m
  · omega
  · rw [List.mem_singleton.mp m]; omega, by show k / 9 + 1 + (k % 9 + 1 + 0) ≤ 24; omega⟩
theorem pool_mem {x : Str} (h : x ∈ pool) : ∃ ds, Num ds ∧ x = numS ds := by
  obtain ⟨k, m, e⟩ := List.mem_map.mp h
  exact ⟨poolN k, pool_num (List.mem_range.mp m), e.symm⟩
theorem pool_ne {ts : List Str} (h : ts.length ≤ 60) : ∃ x r, (pool.filter fun x => !decide (x ∈ ts)) = x :: r ∧ x ∈ pool ∧ x ∉ ts := by
  cases e : pool.filter fun x => !decide (x ∈ ts) with
  | nil =>
    have q := nodup_le pool ts pool_nd fun x m => by
      have z := List.filter_eq_nil_iff.mp e x m
      simpa using z
    rw [pool_len] at q
    omega
  | cons x r =>
    have m : x ∈ pool.filter fun x => !decide (x ∈ ts) := by rw [e]; exact List.mem_cons_self
    obtain ⟨m1, m2⟩ := List.mem_filter.mp m
    exact ⟨x, r, rfl, m1, by simpa using m2⟩
theorem filt_yes {ts : List Str} {x : Str} (c : (if true = true then !decide (x ∈ ts) else decide (x ∈ ts)) = true) : ([x].filter fun x => !decide (x ∈ ts)) = [x] := List.filter_cons_of_pos (by simpa using c)
theorem filt_no {ts : List Str} {x : Str} (c : ¬ (if true = true then !decide (x ∈ ts) else decide (x ∈ ts)) = true) : ([x].filter fun x => !decide (x ∈ ts)) = [] := by
  rw [List.filter_cons_of_neg (by simpa using c)]
  rfl
theorem take_snoc {α : Type} {xs : List α} {i : Nat} {x : α} (h : xs[i]? = some x) : xs.take (i + 1) = xs.take i ++ [x] := by
  rw [List.take_add_one, h]
  rfl
theorem nums_mem {dss : List (List Nat)} {x : Str} (hN : ∀ ds ∈ dss, Num ds) (m : x ∈ dss.map numS) : ∃ ds, Num ds ∧ x = numS ds := by
  obtain ⟨ds, md, rfl⟩ := List.mem_map.mp m
  exact ⟨ds, hN ds md, rfl⟩
theorem ok_numbers (T : Txt K mg) : FnOk P w K mg base CX0 3 T.a_numbers T.d_numbers ["_law_bag_here", "_law_many"] (sp_numbers K) := by
  refine T.F_numbers.ok sc_numbers (fun vs H Q E h => ?_) (fun cdv A outer s H vs Q E hr h => ?_)
  · obtain ⟨b, n, many, rfl, _⟩ := h
    rfl
  · obtain ⟨b, n, many, rfl, m40, hbag, hn, kk⟩ := h
    refine ⟨_, (pss_cons (ps_set (i := 2) sc_numbers.nd rfl (Or.inr rfl) (pe_lst pa_nil))
      (pss_cons (ps_setLc (i := 3) (own := [("_law_k", 4)]) (g := gName 4) (tt := tYes) rfl sc_numbers.nd rfl rfl (sw_true rfl rfl rfl (by decide +kernel)) (pi_range1 (by rfl) T.z_range (pa_cons pe_int pa_nil)) (blkOk_by (own := [("_law_k", 4)]) (N := nm_numbers) (sc := (defScope s_numbers)) (by decide +kernel)) (fun _ _ _ _ _ => pg_name (i := 4) sc_numbers.nd rfl (Or.inl rfl)) (fun _ _ _ _ _ => pts_nil) (fun _ _ _ _ _ => (pe_callTy call_str_int (by rfl) T.z_str (by decide +kernel) (pa_cons (pe_op op_add (pe_op op_add pe_int (pv 4)) (pe_op op_fdivN (pv 4) pe_int)) pa_nil))))
      (pss_cons (ps_for PassesOwn.never rfl (pi_range1 (by rfl) T.z_range (pa_cons (pv 1) pa_nil)) (pg_name (i := 4) sc_numbers.nd rfl (Or.inl rfl))
        (pss_cons (ps_set (i := 5) sc_numbers.nd rfl (Or.inl rfl) (pe_call (ok_number T) (hr.mono (by decide)) (by rfl) T.g_number T.F_number.kp T.b_number .nil pass0 (pa_cons (pv 0) pa_nil)))
        (C8.pss_cut (ps_if (pt_cmpR op_in_seq (pv 5) (pv 2) rfl)
          (pss_cons (ps_setLc (i := 6) (own := [("_law_one", 7)]) (g := gName 7) rfl sc_numbers.nd rfl rfl (sw_true rfl rfl rfl (by decide +kernel)) (pi_list (pv 3)) (blkOk_by (own := [("_law_one", 7)]) (N := nm_numbers) (sc := (defScope s_numbers)) (by decide +kernel)) (fun _ _ _ _ _ => pg_name (i := 7) sc_numbers.nd rfl (Or.inl rfl)) (fun _ _ _ _ _ => (pts_one (pt_cmpR (show OpR _ _ (rIn K true) from op_notIn_seq) (pv 7) (pv 2) rfl))) (fun _ _ _ _ _ => (pv 7)))
          (pss_one (ps_set (i := 5) sc_numbers.nd rfl (Or.inl rfl) (pe_ix ix_list (pv 6) pe_int (fun _ _ => rfl)))))
          pss_nil)
        (pss_one (ps_expr (pe_bm PySem.F.plainAttrs_list PySem.F.slot_list_append PySem.F.type_list_append mt_append (pv 2) (pa_cons (pv 5) pa_nil)))))))
      (pss_one (ps_ret (pv 2)))))), ?_⟩
    refine ⟨Nat.zero_le _, fun f hf => ?_⟩
    have fb : f ≠ b := fun e => by
      obtain ⟨_, _, _, _, _, _, hb, _⟩ := hbag
      rw [e, hb] at hf
      cases hf
    have hf1 : upd H f (.lst []) f = some (.lst []) := upd_same
    have s1 : Same H (upd H f (.lst [])) := same_new hf
    generalize upd H f (.lst []) = H1 at *
    refine ⟨_, rfl, by decide, by decide, fun D hD => ?_⟩
    refine Lm.lc_map (K := K) (walk_rngL (lo := 0) (n := 81)) (fun i y _ => (pool.map V.str)[i]? = some y) (fun _ _ _ _ h _ => h) hD (by decide) (fun _ _ => trivial) (fun i x H' hi hx sm Q2 Z q => ?_) (fun H2 ys s2 hy ly hR => ?_)
    · rw [List.getElem?_map, List.getElem?_range hi] at hx
      cases Option.some.inj hx
      refine ⟨rfl, yesT ?_⟩
      refine ⟨_, rfl, _, _, rfl, rfl, _, rfl, _, _, rfl, rfl, ⟨by decide, by decide⟩, _, _, rfl, rfl, ?_⟩
      rw [Int.zero_add]
      refine ⟨_, rfl, pool_small i hi, ?_⟩
      rw [pool_str i hi]
      refine q _ _ (Same.refl _) ?_
      unfold pool
      rw [List.getElem?_map, List.getElem?_map, List.getElem?_range hi]
      rfl
    have ey : ys = pool.map V.str := Lm.list_is (by rw [ly, List.length_map, pool_len]) hR
    subst ey
    have s02 := s1.trans s2
    have hf2 := s2 _ _ hf1
    have hD0 : H D = none := s1.free hD
    have bag2 := hbag.keep s02
    have db : D ≠ b := fun e => by
      obtain ⟨_, _, _, _, _, _, hb, _⟩ := hbag
      rw [e, hb] at hD0
      cases hD0
    have df : D ≠ f := fun e => by
      rw [e, hf1] at hD
      cases hD
    refine ⟨_, rfl, _, rfl, by omega, by omega, ?_⟩
    rw [Int.toNat_natCast]
    refine for_range (fun i σ H' => ∃ (dss : List (List Nat)) (v4 v5 v6 : Option V), σ = [some (.ref b), some (.int (many : Nat)), some (.ref f), some (.ref D), v4, v5, v6, none] ∧ dss.length = i ∧ (∀ ds ∈ dss, Num ds) ∧ (dss.map numS).Nodup ∧
      H' f = some (.lst ((dss.map numS).map V.str)) ∧ H' D = some (.lst (pool.map V.str)) ∧ Bag H' b (n + 6 * i) ∧ But b H H')
      ⟨[], none, none, none, rfl, rfl, by simp, by simp, hf2, hy, bag2, But.of s02⟩ (fun i σ H3 hi hP => ?_) (fun σ H3 hP => ?_)
    · obtain ⟨dss, v4, v5, v6, rfl, el, hN, nd, hF, hS, bag, but⟩ := hP
      refine ⟨_, rfl, b, n + 6 * i, rfl, bag, by omega, fun H4 ds nm bag4 but4 => ?_⟩
      have hF4 := but4.keep _ _ fb hF
      have hS4 := but4.keep _ _ db hS
      have but5 := but.trans but4
      refine ⟨fun σ H5 => ∃ (ds : List Nat) (v6 : Option V), Num ds ∧ numS ds ∉ dss.map numS ∧ σ = [some (.ref b), some (.int (many : Nat)), some (.ref f), some (.ref D), some (.int (0 + (i : Nat))), some (.str (numS ds)), v6, none] ∧
        H5 f = some (.lst ((dss.map numS).map V.str)) ∧ H5 D = some (.lst (pool.map V.str)) ∧ Bag H5 b (n + 6 * i + 6) ∧ But b H H5, ?_, ?_⟩
      · refine ⟨_, rfl, _, rfl, f, _, rfl, .inl (SqL.of hF4), rfl, flat_strs _, _, rfl, ite2 (fun c => ?_) (fun c => ?_)⟩
        · refine ⟨_, rfl, D, rfl, ⟨_, SqL.of hS4⟩, fun A1 hA1 => ?_⟩
          refine lc_list (xs := pool.map V.str) (fun i H' => Same H4 H' ∧ H' A1 = some (.lst (((pool.take i).filter fun x => !decide (x ∈ dss.map numS)).map V.str))) ⟨same_new hA1, upd_same⟩ (fun i H3 _ hP => SqL.of (hP.1 _ _ hS4)) (fun i x H3 hx hP => ?_) (fun H3 hP => ?_)
          · obtain ⟨sm, hq⟩ := hP
            rw [List.getElem?_map] at hx
            obtain ⟨x, hx1, rfl⟩ := Option.map_eq_some_iff.mp hx
            have hi : i < 81 := by rw [← pool_len]; exact (List.getElem?_eq_some_iff.mp hx1).1
            have lq : ((pool.take i).filter fun x => !decide (x ∈ dss.map numS)).length ≤ 81 := Nat.le_trans (List.length_filter_le _ _) (by rw [List.length_take]; omega)
            have sn := take_snoc hx1
            refine ⟨rfl, ?_⟩
            refine ⟨_, rfl, _, rfl, f, _, rfl, .inl (SqL.of (sm _ _ hF4)), rfl, flat_strs _, _, rfl, ite2 (fun c => ?_) (fun c => ?_)⟩
            · rw [in_strs] at c
              refine ⟨_, rfl, _, hq, by rw [List.length_map]; exact small1000 (by omega), same_mut sm hA1, ?_⟩
              rw [upd_same, sn, List.filter_append, List.map_append, filt_yes c]
              rfl
            · rw [in_strs] at c
              refine ⟨sm, ?_⟩
              rw [hq, sn, List.filter_append, filt_no c, List.append_nil]
          obtain ⟨s3, h3⟩ := hP
          rw [List.length_map, List.take_length] at h3
          obtain ⟨x, r, e, mp, nin⟩ := pool_ne (ts := dss.map numS) (by rw [List.length_map]; omega)
          rw [e] at h3
          obtain ⟨es, ne, rfl⟩ := pool_mem mp
          refine ⟨_, rfl, A1, _, 0, _, rfl, rfl, SqL.of h3, atI_nat (j := 0) rfl, ?_⟩
          exact ⟨es, _, ne, nin, rfl, s3 _ _ hF4, s3 _ _ hS4, bag4.keep s3, but5.trans (But.of s3)⟩
        · rw [in_strs] at c
          exact ⟨ds, _, nm, by simpa using c, rfl, hF4, hS4, bag4, but5⟩
      · rintro σ H5 ⟨ds, v6, nm, nin, rfl, hF5, hS5, bag5, but5⟩
        refine ⟨_, rfl, .inl ⟨rfl, _, SqL.of hF5⟩, _, rfl, f, _, _, rfl, rfl, hF5, small1000 (by rw [List.length_map, List.length_map]; omega), ?_⟩
        refine ⟨dss ++ [ds], _, _, _, rfl, by rw [List.length_append, el]; rfl, fun x m => ?_, ?_, ?_, ?_, Bag.put hbag hf but5 (bag5.mono (by omega)), but5.put hf⟩
        · rcases List.mem_append.mp m with m | m
          · exact hN x m
          · rw [List.mem_singleton.mp m]
            exact nm
        · rw [List.map_append]
          refine List.nodup_append.mpr ⟨nd, by simp, fun x m y my => ?_⟩
          have ey : y = numS ds := by simpa using my
          intro e
          exact nin (by rw [← ey, ← e]; exact m)
        · rw [upd_same, List.map_append, List.map_append (f := V.str)]
          rfl
        · rw [upd_ne df]
          exact hS5
    · obtain ⟨dss, v4, v5, v6, rfl, el, hN, nd, hF, hS, bag, but⟩ := hP
      exact ⟨_, rfl, kk _ f dss el hN nd hf hF bag but⟩
end
end K10

namespace K10
open PySem L2 Wm TL Dv De
section
variable {P : Program} {w : World} {K : PySem.W.Frag} {mg : Str → Option Value} {base : Heap}
def Refs (ys : List V) : Prop := ∀ y ∈ ys, ∃ q, y = V.ref q
theorem box_off {H : Hp} {q D : Addr} {s t : Str} {ys : List V} (h : H q = some (.lst [.str s, .str t])) (hd : H D = some (.lst ys)) (r : Refs ys) : q ≠ D := fun e => by
  rw [e, hd] at h
  have h := HO.lst.inj (Option.some.inj h)
  obtain ⟨p, z⟩ := r (.str s) (by rw [h]; simp)
  cases z
theorem BxL.up {H : Hp} {v : V} {D : Addr} {ys : List V} {o : HO} (h : BxL H v) (hd : H D = some (.lst ys)) (r : Refs ys) : BxL (upd H D o) v := by
  obtain ⟨q, s, t, e, hq, a, b⟩ := h
  exact ⟨q, s, t, e, by rw [upd_ne (box_off hq hd r)]; exact hq, a, b⟩
theorem BxL.ref {H : Hp} {v : V} (h : BxL H v) : ∃ q, v = V.ref q := let ⟨q, _, _, e, _⟩ := h; ⟨q, e⟩
theorem BxL.bt {H H' : Hp} {v : V} {b : Addr} {n : Nat} (h : BxL H v) (bag : Bag H b n) (bt : But b H H') : BxL H' v := by
  obtain ⟨q, s, t, e, hq, a, c⟩ := h
  refine ⟨q, s, t, e, bt.keep _ _ (fun z => ?_) hq, a, c⟩
  obtain ⟨_, _, _, _, _, _, hb, _⟩ := bag
  rw [z, hb] at hq
  cases hq
theorem BxL.same {H H' : Hp} {v : V} (h : BxL H v) (s : Same H H') : BxL H' v := by
  obtain ⟨q, s', t, e, hq, a, c⟩ := h
  exact ⟨q, s', t, e, s _ _ hq, a, c⟩
theorem ok_pairs (T : Txt K mg) : FnOk P w K mg base CX0 2 T.a_pairs T.d_pairs ["_law_bag_here", "_law_numbers_here"] (sp_pairs K) := by
  refine T.F_pairs.ok sc_pairs (fun vs H Q E h => ?_) (fun cdv A outer s H vs Q E hr h => ?_)
  · obtain ⟨b, p, n, ts, rfl, _⟩ := h
    rfl
  · obtain ⟨b, p, n, ts, rfl, bag, hn, pb, hp, lt, st, kk⟩ := h
    refine ⟨_, (pss_one (ps_ret (pe_lc (own := [("_law_number_here", 2)]) (g := gName 2) (tt := tYes) rfl sc_pairs.nd (pi_list (pv 1)) (blkOk_by (own := [("_law_number_here", 2)]) (N := nm_pairs) (sc := (defScope s_pairs)) (by decide +kernel)) (fun _ _ _ _ _ => pg_name (i := 2) sc_pairs.nd rfl (Or.inl rfl)) (fun _ _ _ _ _ => pts_nil) (fun _ _ _ _ _ => (pe_lst (pa_cons (pv 2) (pa_cons (pe_ix (show IxR _ (rIxL K) from ix_list) (pe_lst (pa_cons pe_str (pa_cons pe_str pa_nil))) (pe_call (ok_draw T) (hr.mono (by decide)) (by rfl) T.g_draw T.F_draw.kp T.b_draw .nil pass0 (pa_cons (pv 0) (pa_cons pe_int pa_nil))) (fun _ _ => rfl)) pa_nil))))))), ?_⟩
    refine ⟨_, rfl, p, rfl, ⟨_, SqL.of hp⟩, fun D hD => ?_⟩
    have db := Lm.bag_off bag hD
    refine lc_it (tt := tYes) walk_list (fun i H' => But b H H' ∧ Bag H' b (n + i) ∧ ∃ ys : List V, ys.length = i ∧ H' D = some (.lst ys) ∧ ∀ y ∈ ys, BxL H' y)
      ⟨But.of (same_new hD), (bag.keep (same_new hD)).mono (by omega), [], rfl, upd_same, fun y m => by cases m⟩ (fun i H' _ h => SqL.of (h.1.keep _ _ pb hp)) (fun i x A A' hi hP hY => ?_) (fun A hP => ?_)
    · obtain ⟨bt, bg, ys, ely, hy, hR⟩ := hP
      obtain ⟨rfl, hx⟩ := hY
      rw [List.getElem?_map] at hx
      obtain ⟨t, et, rfl⟩ := Option.map_eq_some_iff.mp hx
      rw [List.length_map] at hi
      refine ⟨rfl, yesT ?_⟩
      refine ⟨_, rfl, by show 2 ≤ sizeLine; decide, fun u hu => ?_⟩
      have su := same_new (o := .lst [V.str "plain", V.str "shy"]) hu
      have ub := Lm.bag_off bg hu
      have hu1 : upd A' u (.lst [V.str "plain", V.str "shy"]) u = some (.lst [V.str "plain", V.str "shy"]) := upd_same
      generalize upd A' u (.lst [V.str "plain", V.str "shy"]) = A1 at *
      refine ⟨_, rfl, b, n + i, 2, rfl, by decide, by decide, bg.keep su, by omega, fun A2 d d0 d1 bg2 bt2 => ?_⟩
      have hu2 := bt2.keep _ _ ub hu1
      have pick : ∃ srt : Str, atI [V.str "plain", V.str "shy"] d = some (.str srt) ∧ srt.length ≤ 20 := by
        have c : d = 0 ∨ d = 1 := by omega
        rcases c with rfl | rfl
        · exact ⟨"plain", rfl, by decide +kernel⟩
        · exact ⟨"shy", rfl, by decide +kernel⟩
      obtain ⟨srt, ea, ls⟩ := pick
      refine ⟨u, _, d, _, rfl, rfl, SqL.of hu2, ea, by show 2 ≤ sizeLine; decide, fun v hv => ?_⟩
      have hy2 := bt2.keep _ _ db (su _ _ hy)
      have sv := same_new (o := .lst [V.str t, V.str srt]) hv
      have hy3 := sv _ _ hy2
      have hb3 : BxL (upd A2 v (.lst [V.str t, V.str srt])) (.ref v) := ⟨v, t, srt, rfl, upd_same, st t (List.mem_of_getElem? et), ls⟩
      have old : ∀ y ∈ ys, BxL (upd A2 v (.lst [V.str t, V.str srt])) y := fun y m => (((hR y m).same su).bt (bg.keep su) bt2).same sv
      have bg3 := bg2.keep sv
      have btA := ((bt.trans (But.of su)).trans bt2).trans (But.of sv)
      generalize upd A2 v (.lst [V.str t, V.str srt]) = A3 at *
      have rf : Refs ys := fun y m => (hR y m).ref
      refine ⟨ys, hy3, small_lt (by omega), btA.put hD, Bag.put bag hD btA (bg3.mono (by omega)), ys ++ [.ref v], by rw [List.length_append, ely]; rfl, upd_same, fun y m => ?_⟩
      rcases List.mem_append.mp m with m | m
      · exact (old y m).up hy3 rf
      · rw [List.mem_singleton.mp m]
        exact hb3.up hy3 rf
    · obtain ⟨bt, bg, ys, ely, hy, hR⟩ := hP
      rw [List.length_map] at ely bg
      exact kk A D ys hy ely hR bg bt
theorem RwL.up {H : Hp} {v : V} {D : Addr} {ys : List V} {o : HO} (h : RwL H v) (ne : v ≠ .ref D) (hd : H D = some (.lst ys)) (r : Refs ys) : RwL (upd H D o) v := by
  obtain ⟨q, zs, rfl, hq, l1, l2, a⟩ := h
  exact ⟨q, zs, rfl, by rw [upd_ne (fun z => ne (by rw [z]))]; exact hq, l1, l2, fun y m => (a y m).up hd r⟩
theorem RwL.same {H H' : Hp} {v : V} (h : RwL H v) (s : Same H H') : RwL H' v := by
  obtain ⟨q, zs, rfl, hq, l1, l2, a⟩ := h
  exact ⟨q, zs, rfl, s _ _ hq, l1, l2, fun y m => (a y m).same s⟩
theorem RwL.ref {H : Hp} {v : V} (h : RwL H v) : ∃ q, v = V.ref q := let ⟨q, _, e, _⟩ := h; ⟨q, e⟩
def natSum (ms : List Nat) : Int := (ms.map fun (m : Nat) => (m : Int)).sum
theorem natSum_is : ∀ ms : List Nat, natSum ms = ((ms.sum : Nat) : Int)
  | [] => rfl
  | m :: ms => by
    have ih := natSum_is ms
    unfold natSum at ih ⊢
    rw [List.map_cons, List.sum_cons, List.sum_cons, ih]
    omega
theorem sum_le : ∀ {ms : List Nat}, (∀ m ∈ ms, m ≤ 12) → ms.sum ≤ 12 * ms.length
  | [], _ => by simp
  | m :: ms, h => by
    have ih := sum_le (ms := ms) fun x q => h x (List.mem_cons_of_mem _ q)
    have := h m (by simp)
    simp only [List.sum_cons, List.length_cons]
    omega
theorem ok_loops (T : Txt K mg) : FnOk P w K mg base CX0 4 T.a_loops T.d_loops ["_law_bag_here"] (sp_loops K) := by
  refine T.F_loops.ok sc_loops (fun vs H Q E h => ?_) (fun cdv A outer s H vs Q E hr h => ?_)
  · obtain ⟨b, n, rfl, _⟩ := h
    rfl
  · obtain ⟨b, n, rfl, bag, hn, kk⟩ := h
    refine ⟨_, (pss_cons (ps_set (i := 1) sc_loops.nd rfl (Or.inl rfl) (pe_lst pa_nil))
      (pss_cons (ps_for PassesOwn.never rfl (pi_range1 (by rfl) T.z_range (pa_cons (pe_op op_add (pe_op op_add pe_int (pe_call (ok_draw T) (hr.mono (by decide)) (by rfl) T.g_draw T.F_draw.kp T.b_draw .nil pass0 (pa_cons (pv 0) (pa_cons pe_int pa_nil)))) (pe_callTy call_int1 (by rfl) T.z_int (by decide +kernel) (pa_cons (pe_cmpR op_eq (pe_call (ok_draw T) (hr.mono (by decide)) (by rfl) T.g_draw T.F_draw.kp T.b_draw .nil pass0 (pa_cons (pv 0) (pa_cons pe_int pa_nil))) pe_int (nomark _)) pa_nil))) pa_nil)) (pg_name (i := 2) sc_loops.nd rfl (Or.inl rfl))
        (pss_one (ps_expr (pe_bm PySem.F.plainAttrs_list PySem.F.slot_list_append PySem.F.type_list_append mt_append (pv 1) (pa_cons (pe_op op_add pe_int (pe_call (ok_draw T) (hr.mono (by decide)) (by rfl) T.g_draw T.F_draw.kp T.b_draw .nil pass0 (pa_cons (pv 0) (pa_cons (pe_ix ix_list (pe_lst (pa_cons pe_int (pa_cons pe_int pa_nil))) (pe_callTy call_int1 (by rfl) T.z_int (by decide +kernel) (pa_cons (pe_cmpR op_eq (pe_call (ok_draw T) (hr.mono (by decide)) (by rfl) T.g_draw T.F_draw.kp T.b_draw .nil pass0 (pa_cons (pv 0) (pa_cons pe_int pa_nil))) pe_int (nomark _)) pa_nil)) (fun _ _ => rfl)) pa_nil)))) pa_nil)))))
      (pss_cons (ps_set (i := 3) sc_loops.nd rfl (Or.inl rfl) (pe_call (ok_pairs T) (hr.mono (by decide)) (by rfl) T.g_pairs T.F_pairs.kp T.b_pairs .nil pass0 (pa_cons (pv 0) (pa_cons (pe_call (ok_numbers T) (hr.mono (by decide)) (by rfl) T.g_numbers T.F_numbers.kp T.b_numbers .nil pass0 (pa_cons (pv 0) (pa_cons (pe_callB (cr_sum rfl) (by rfl) T.z_sum (by decide +kernel) (pa_cons (pv 1) pa_nil)) pa_nil))) pa_nil))))
      (pss_cons (ps_set (i := 4) sc_loops.nd rfl (Or.inl rfl) (pe_lst pa_nil))
      (pss_cons (ps_for PassesOwn.never rfl (pi_list (pv 1)) (pg_name (i := 5) sc_loops.nd rfl (Or.inl rfl))
        (pss_cons (ps_expr (pe_bm PySem.F.plainAttrs_list PySem.F.slot_list_append PySem.F.type_list_append mt_append (pv 4) (pa_cons (pe_slice sl_list (pv 3) po_none (po_some (pv 5))) pa_nil)))
        (pss_one (ps_set (i := 3) sc_loops.nd rfl (Or.inl rfl) (pe_slice sl_list (pv 3) (po_some (pv 5)) po_none)))))
      (pss_one (ps_ret (pv 4)))))))), ?_⟩
    refine ⟨by show 0 ≤ sizeLine; decide, fun S hS => ?_⟩
    have sb := Lm.bag_off bag hS
    have bag1 := bag.keep (same_new (o := .lst []) hS)
    have bt1 : But b H (upd H S (.lst [])) := But.of (same_new hS)
    have hS1 : upd H S (.lst []) S = some (.lst []) := upd_same
    generalize upd H S (.lst []) = H1 at *
    refine ⟨_, rfl, b, n, 3, rfl, by decide, by decide, bag1, by omega, fun H2 d1 a1 b1 bag2 bt2 => ?_⟩
    refine ⟨_, _, rfl, rfl, _, rfl, b, n + 1, 8, rfl, by decide, by decide, bag2, by omega, fun H3 d2 a2 b2 bag3 bt3 => ?_⟩
    refine ⟨rfl, .inr ⟨_, rfl, _, _, rfl, rfl, ?_⟩⟩
    obtain ⟨z, ez, z1, z4⟩ : ∃ z : Nat, (1 : Int) + d1 + (if decide (V.int d2 = V.int 0) = true then 1 else 0) = (z : Int) ∧ 1 ≤ z ∧ z ≤ 4 := by
      cases decide (V.int d2 = V.int 0)
      · exact ⟨(1 + d1).toNat, by simp; omega, by omega, by omega⟩
      · exact ⟨(2 + d1).toNat, by simp; omega, by omega, by omega⟩
    refine ⟨(z : Int), by rw [← ez], by omega, by omega, ?_⟩
    rw [Int.toNat_natCast]
    have bt3' := bt2.trans bt3
    have hS3 := bt3'.keep _ _ sb hS1
    refine for_range (fun i σ A' => ∃ (v2 : Option V) (ms : List Nat), σ = [some (.ref b), some (.ref S), v2, none, none, none] ∧ ms.length = i ∧ (∀ m ∈ ms, 1 ≤ m ∧ m ≤ 12) ∧ A' S = some (.lst (ms.map fun (m : Nat) => V.int m)) ∧ Bag A' b (n + 2 + 2 * i) ∧ But b H A')
      ⟨none, [], rfl, rfl, fun _ m => absurd m (List.not_mem_nil), hS3, bag3, bt1.trans bt3'⟩ (fun i σ A' hi hP => ?_) (fun σ A' hP => ?_)
    · obtain ⟨v2, ms, rfl, el, hm, hA, bg, btH⟩ := hP
      refine ⟨_, rfl, .inl ⟨rfl, _, SqL.of hA⟩, ?_⟩
      refine ⟨_, rfl, by show 2 ≤ sizeLine; decide, fun u hu => ?_⟩
      have su := same_new (o := .lst [V.int 4, V.int 12]) hu
      have ub := Lm.bag_off bg hu
      have hu1 : upd A' u (.lst [V.int 4, V.int 12]) u = some (.lst [V.int 4, V.int 12]) := upd_same
      have hA1 := su _ _ hA
      have bg1 := bg.keep su
      generalize upd A' u (.lst [V.int 4, V.int 12]) = A1 at *
      refine ⟨_, rfl, b, _, 6, rfl, by decide, by decide, bg1, by omega, fun A2 d c0 c1 bg2 bt2' => ?_⟩
      have hu2 := bt2'.keep _ _ ub hu1
      have hA2 := bt2'.keep _ _ sb hA1
      have pick : ∃ lim : Int, atI [V.int 4, V.int 12] (if decide (V.int d = V.int 0) = true then 1 else 0) = some (.int lim) ∧ 4 ≤ lim ∧ lim ≤ 12 := by
        cases decide (V.int d = V.int 0)
        · exact ⟨4, rfl, by decide, by decide⟩
        · exact ⟨12, rfl, by decide, by decide⟩
      obtain ⟨lim, ea, l4, l12⟩ := pick
      refine ⟨rfl, .inr ⟨_, rfl, u, _, _, _, rfl, rfl, SqL.of hu2, ea, b, _, lim, rfl, by omega, by omega, bg2, by omega, fun A3 d3 e0 e1 bg3 bt3' => ?_⟩⟩
      have hA3 := bt3'.keep _ _ sb hA2
      refine ⟨_, _, rfl, rfl, S, _, _, rfl, rfl, hA3, by rw [List.length_map]; exact small_lt (by omega), ?_⟩
      have btA := ((btH.trans (But.of su)).trans bt2').trans bt3'
      refine ⟨_, ms ++ [(1 + d3).toNat], rfl, by rw [List.length_append, el]; rfl, fun m mm => ?_, ?_, Bag.put bag hS btA (bg3.mono (by omega)), btA.put hS⟩
      · rcases List.mem_append.mp mm with mm | mm
        · exact hm m mm
        · rw [List.mem_singleton.mp mm]
          omega
      · rw [upd_same, List.map_append]
        show some (HO.lst (_ ++ [V.int (1 + d3)])) = some (HO.lst (_ ++ [V.int ((1 + d3).toNat : Int)]))
        rw [show (((1 + d3).toNat : Nat) : Int) = 1 + d3 by omega]
    · obtain ⟨v2, ms, rfl, el, hm, hA, bg, btH⟩ := hP
      have sl := sum_le (ms := ms) fun m q => (hm m q).2
      refine ⟨_, rfl, _, rfl, _, rfl, S, ms.map fun (m : Nat) => (m : Int), rfl, SqL.of (by rw [hA, List.map_map]; rfl), b, _, ms.sum, ?_, by omega, bg, by omega, fun H4 p dss l1 hN _ hp hp4 bg4 bt4 => ?_⟩
      · rw [show (ms.map fun (m : Nat) => (m : Int)).sum = ((ms.sum : Nat) : Int) from natSum_is ms]
        rfl
      have pb := Lm.bag_off bg hp
      refine ⟨b, p, _, dss.map numS, rfl, bg4, by omega, pb, hp4, by rw [List.length_map]; omega, fun t mt => ?_, fun H5 q ys hq ly hY bg5 bt5 => ?_⟩
      · obtain ⟨ds, md, rfl⟩ := List.mem_map.mp mt
        rw [numS_len]
        have := (hN ds md).len
        omega
      have hS5 := bt5.keep _ _ sb (bt4.keep _ _ sb hA)
      refine ⟨by show 0 ≤ sizeLine; decide, fun L hL => ?_⟩
      have hq6 := same_new (o := .lst []) hL _ _ hq
      have hS6 := same_new (o := .lst []) hL _ _ hS5
      have qL : q ≠ L := fun e => by rw [e, hL] at hq; cases hq
      have SL : S ≠ L := fun e => by rw [e, hL] at hS5; cases hS5
      have hY6 : ∀ y ∈ ys, BxL (upd H5 L (.lst [])) y := fun y m => (hY y m).same (same_new hL)
      have hL6 : upd H5 L (.lst []) L = some (.lst []) := upd_same
      have off6 : Same H5 (upd H5 L (.lst [])) := same_new hL
      generalize upd H5 L (.lst []) = H6 at *
      have back : ∀ {A'}, Off L H6 A' → Same H5 A' := fun o a u e => o a u (fun z => by rw [z, hL] at e; cases e) (off6 a u e)
      refine ⟨_, rfl, S, rfl, ⟨_, SqL.of hS6⟩, ?_⟩
      refine for_list (xs := ms.map fun (m : Nat) => V.int m) (fun i σ A' => ∃ (B : Addr) (zs rows : List V) (v5 : Option V), σ = [some (.ref b), some (.ref S), v2, some (.ref B), some (.ref L), v5] ∧ Off L H6 A' ∧ A' L = some (.lst rows) ∧ rows.length = i ∧ (∀ x ∈ rows, RwL A' x ∧ x ≠ .ref L) ∧
        A' B = some (.lst zs) ∧ B ≠ L ∧ zs.length = (ms.drop i).sum ∧ ∀ y ∈ zs, BxL A' y) ⟨q, ys, [], none, rfl, fun _ _ _ h => h, hL6, rfl, fun _ m => absurd m (List.not_mem_nil), hq6, qL, by rw [ly, List.length_map, l1]; rfl, hY6⟩
        (fun _ σ A' _ h => let ⟨_, _, _, _, _, o, _⟩ := h; SqL.of (o _ _ SL hS6)) (fun i x σ A' hx hP => ?_) (fun σ A' hP => ?_)
      · obtain ⟨B, zs, rows, v5, rfl, off, hl, lr, hr', hB, BL, lz, hz⟩ := hP
        rw [List.getElem?_map] at hx
        obtain ⟨m, em, rfl⟩ := Option.map_eq_some_iff.mp hx
        have m12 := hm m (List.mem_of_getElem? em)
        have im : i < ms.length := (List.getElem?_eq_some_iff.mp em).1
        have dr : (ms.drop i).sum = m + (ms.drop (i + 1)).sum := by
          rw [List.drop_eq_getElem_cons im, List.sum_cons]
          rw [List.getElem?_eq_getElem im] at em
          rw [Option.some.inj em]
        have cT : cutV zs none (some (m : Int)) = zs.take m := by
          unfold cutV
          rw [HT.sIx_none, HT.sIx_nat, List.drop_zero, Nat.sub_zero, Nat.min_eq_left (by omega)]
        have cD : cutV zs (some (m : Int)) none = zs.drop m := by
          unfold cutV
          rw [HT.sIx_none, HT.sIx_nat, Nat.min_eq_left (by omega)]
          exact List.take_of_length_le (by rw [List.length_drop]; exact Nat.le_refl _)
        refine ⟨_, rfl, .inl ⟨rfl, _, SqL.of hl⟩, ?_⟩
        refine ⟨_, rfl, _, rfl, _, rfl, B, _, rfl, SqL.of hB, fun q1 hq1 => ?_⟩
        rw [cT]
        have sq := same_new (o := .lst (zs.take m)) hq1
        have q1L : q1 ≠ L := fun e => by rw [e, hl] at hq1; cases hq1
        have rw1 : RwL (upd A' q1 (.lst (zs.take m))) (.ref q1) := ⟨q1, _, rfl, upd_same, by rw [List.length_take]; omega, by rw [List.length_take]; omega, fun y my => (hz y (List.mem_of_mem_take my)).same sq⟩
        have hr1 : ∀ x ∈ rows, RwL (upd A' q1 (.lst (zs.take m))) x := fun x mx => (hr' x mx).1.same sq
        have hz1 : ∀ y ∈ zs, BxL (upd A' q1 (.lst (zs.take m))) y := fun y my => (hz y my).same sq
        have hl1 := sq _ _ hl
        have hB1 := sq _ _ hB
        generalize upd A' q1 (.lst (zs.take m)) = A1 at *
        have rf : Refs rows := fun x mx => (hr' x mx).1.ref
        refine ⟨L, rows, _, rfl, rfl, hl1, small_lt (by omega), ?_⟩
        have hB2 : upd A1 L (.lst (rows ++ [.ref q1])) B = some (.lst zs) := by rw [upd_ne BL]; exact hB1
        have hl2 : upd A1 L (.lst (rows ++ [.ref q1])) L = some (.lst (rows ++ [.ref q1])) := upd_same
        have hr2 : ∀ x ∈ rows ++ [V.ref q1], RwL (upd A1 L (.lst (rows ++ [.ref q1]))) x ∧ x ≠ .ref L := fun x mx => by
          rcases List.mem_append.mp mx with mx | mx
          · exact ⟨(hr1 x mx).up (hr' x mx).2 hl1 rf, (hr' x mx).2⟩
          · rw [List.mem_singleton.mp mx]
            exact ⟨rw1.up (fun z => q1L (V.ref.inj z)) hl1 rf, fun z => q1L (V.ref.inj z)⟩
        have hz2 : ∀ y ∈ zs, BxL (upd A1 L (.lst (rows ++ [.ref q1]))) y := fun y my => (hz1 y my).up hl1 rf
        have off2 : Off L H6 (upd A1 L (.lst (rows ++ [.ref q1]))) := (off.trans (Off.of sq)).trans Off.set
        generalize upd A1 L (.lst (rows ++ [.ref q1])) = A2 at *
        refine ⟨_, rfl, _, rfl, _, rfl, B, _, rfl, SqL.of hB2, fun q2 hq2 => ?_⟩
        rw [cD]
        have s2 := same_new (o := .lst (zs.drop m)) hq2
        have n2 : q2 ≠ L := fun e => by rw [e, hl2] at hq2; cases hq2
        refine ⟨q2, zs.drop m, rows ++ [.ref q1], _, rfl, off2.trans (Off.of s2), s2 _ _ hl2, by rw [List.length_append, lr]; rfl, fun x mx => ⟨(hr2 x mx).1.same s2, (hr2 x mx).2⟩, upd_same, n2, by rw [List.length_drop]; omega, fun y my => (hz2 y (List.mem_of_mem_drop my)).same s2⟩
      · obtain ⟨B, zs, rows, v5, rfl, off, hl, lr, hr', hB, BL, lz, hz⟩ := hP
        rw [List.length_map] at lr
        exact ⟨_, rfl, kk _ _ _ ⟨L, rows, rfl, hl, by omega, by omega, fun x mx => (hr' x mx).1⟩ (bg5.keep (back off)) (by rw [List.length_map]; omega)⟩
end
end K10

namespace K10
open PySem L2 Wm TL Dv De
section
variable {P : Program} {w : World} {K : PySem.W.Frag} {mg : Str → Option Value} {base : Heap}
theorem BxL.mut {H : Hp} {v : V} {qb : Addr} {s t s' t' : Str} (h : BxL H v) (hb : H qb = some (.lst [.str s, .str t])) (l1 : s'.length ≤ 20) (l2 : t'.length ≤ 20) : BxL (upd H qb (.lst [.str s', .str t'])) v := by
  obtain ⟨q, a, c, e, hq, a1, a2⟩ := h
  by_cases z : q = qb
  · exact ⟨q, s', t', e, by rw [z, upd_same], l1, l2⟩
  · exact ⟨q, a, c, e, by rw [upd_ne z]; exact hq, a1, a2⟩
theorem refs_off {H : Hp} {q qb : Addr} {s t : Str} {ys : List V} (hq : H q = some (.lst ys)) (r : Refs ys) (hb : H qb = some (.lst [.str s, .str t])) : q ≠ qb := fun e => box_off hb hq r e.symm
theorem RwL.mut {H : Hp} {v : V} {qb : Addr} {s t s' t' : Str} (h : RwL H v) (hb : H qb = some (.lst [.str s, .str t])) (l1 : s'.length ≤ 20) (l2 : t'.length ≤ 20) : RwL (upd H qb (.lst [.str s', .str t'])) v := by
  obtain ⟨q, ys, e, hq, a1, a2, a⟩ := h
  exact ⟨q, ys, e, by rw [upd_ne (refs_off hq (fun y m => (a y m).ref) hb)]; exact hq, a1, a2, fun y m => (a y m).mut hb l1 l2⟩
theorem GdL.mut {H : Hp} {v : V} {qb : Addr} {s t s' t' : Str} (h : GdL H v) (hb : H qb = some (.lst [.str s, .str t])) (l1 : s'.length ≤ 20) (l2 : t'.length ≤ 20) : GdL (upd H qb (.lst [.str s', .str t'])) v := by
  obtain ⟨q, ys, e, hq, a1, a2, a⟩ := h
  exact ⟨q, ys, e, by rw [upd_ne (refs_off hq (fun y m => (a y m).ref) hb)]; exact hq, a1, a2, fun y m => (a y m).mut hb l1 l2⟩
theorem bag_mut {H : Hp} {b qb : Addr} {n : Nat} {s t : Str} {o : HO} (bag : Bag H b n) (hb : H qb = some (.lst [.str s, .str t])) : Bag (upd H qb o) b n := by
  obtain ⟨c, x, k, m, z, ns, h1, h2, h3⟩ := bag
  have n1 : b ≠ qb := fun e => by
    rw [e, hb] at h1
    cases h1
  have n2 : c ≠ qb := fun e => by
    rw [e, hb] at h2
    have h2 := HO.lst.inj (Option.some.inj h2)
    cases ns with
    | nil => cases h2
    | cons a r => cases h2
  exact ⟨c, x, k, m, z, ns, by rw [upd_ne n1]; exact h1, by rw [upd_ne n2]; exact h2, h3⟩
theorem RwL.bt {H H' : Hp} {v : V} {b : Addr} {n : Nat} (h : RwL H v) (bag : Bag H b n) (bt : But b H H') : RwL H' v := by
  obtain ⟨q, ys, e, hq, a1, a2, a⟩ := h
  refine ⟨q, ys, e, bt.keep _ _ (fun z => ?_) hq, a1, a2, fun y m => (a y m).bt bag bt⟩
  obtain ⟨_, x, _, _, _, _, hb, _⟩ := bag
  rw [z, hb] at hq
  have hq := HO.lst.inj (Option.some.inj hq)
  obtain ⟨p, ep⟩ := (a (.int x) (by rw [← hq]; simp)).ref
  cases ep
theorem GdL.bt {H H' : Hp} {v : V} {b : Addr} {n : Nat} (h : GdL H v) (bag : Bag H b n) (bt : But b H H') : GdL H' v := by
  obtain ⟨q, ys, e, hq, a1, a2, a⟩ := h
  refine ⟨q, ys, e, bt.keep _ _ (fun z => ?_) hq, a1, a2, fun y m => (a y m).bt bag bt⟩
  obtain ⟨_, x, _, _, _, _, hb, _⟩ := bag
  rw [z, hb] at hq
  have hq := HO.lst.inj (Option.some.inj hq)
  obtain ⟨p, ep⟩ := (a (.int x) (by rw [← hq]; simp)).ref
  cases ep
theorem GdL.same {H H' : Hp} {v : V} (h : GdL H v) (s : Same H H') : GdL H' v := by
  obtain ⟨q, ys, e, hq, a1, a2, a⟩ := h
  exact ⟨q, ys, e, s _ _ hq, a1, a2, fun y m => (a y m).same s⟩
/-- an item at an index drawn below the length -/
theorem drawn {xs : List V} {d : Int} (h0 : 0 ≤ d) (h1 : d < (xs.length : Nat)) : ∃ x, atI xs d = some x ∧ x ∈ xs := by
  have lt : d.toNat < xs.length := by omega
  exact ⟨xs[d.toNat], at_of (j := d.toNat) (by omega) (List.getElem?_eq_getElem lt), List.getElem_mem lt⟩
def GdA (H : Hp) (q : Addr) (xs : List V) : Prop := H q = some (.lst xs) ∧ 1 ≤ xs.length ∧ xs.length ≤ 4 ∧ ∀ x ∈ xs, RwL H x
def RwA (H : Hp) (q : Addr) (ys : List V) : Prop := H q = some (.lst ys) ∧ 1 ≤ ys.length ∧ ys.length ≤ 12 ∧ ∀ y ∈ ys, BxL H y
def BxA (H : Hp) (q : Addr) (s t : Str) : Prop := H q = some (.lst [.str s, .str t]) ∧ s.length ≤ 20 ∧ t.length ≤ 20
theorem refs_ne {H : Hp} {q b : Addr} {n : Nat} {ys : List V} (hq : H q = some (.lst ys)) (r : Refs ys) (bag : Bag H b n) : q ≠ b := fun z => by
  obtain ⟨_, x, _, _, _, _, hb, _⟩ := bag
  rw [z, hb] at hq
  have hq := HO.lst.inj (Option.some.inj hq)
  obtain ⟨p, ep⟩ := r (.int x) (by rw [← hq]; simp)
  cases ep
theorem GdA.bt {H H' : Hp} {q b : Addr} {n : Nat} {xs : List V} (h : GdA H q xs) (bag : Bag H b n) (bt : But b H H') : GdA H' q xs :=
  ⟨bt.keep _ _ (refs_ne h.1 (fun y m => (h.2.2.2 y m).ref) bag) h.1, h.2.1, h.2.2.1, fun x m => (h.2.2.2 x m).bt bag bt⟩
theorem RwA.bt {H H' : Hp} {q b : Addr} {n : Nat} {xs : List V} (h : RwA H q xs) (bag : Bag H b n) (bt : But b H H') : RwA H' q xs :=
  ⟨bt.keep _ _ (refs_ne h.1 (fun y m => (h.2.2.2 y m).ref) bag) h.1, h.2.1, h.2.2.1, fun x m => (h.2.2.2 x m).bt bag bt⟩
theorem BxA.bt {H H' : Hp} {q b : Addr} {n : Nat} {s t : Str} (h : BxA H q s t) (bag : Bag H b n) (bt : But b H H') : BxA H' q s t := by
  refine ⟨bt.keep _ _ (fun z => ?_) h.1, h.2⟩
  obtain ⟨_, _, _, _, _, _, hb, _⟩ := bag
  have h1 := h.1
  rw [z, hb] at h1
  cases h1
theorem big {k : Nat} (h : k ≤ 12) : ((k : Nat) : Int) < 2 ^ 100 := Int.lt_of_le_of_lt (show ((k : Nat) : Int) ≤ 12 by omega) (by decide)
/-- one of some texts -/
theorem drawnT {ts : List Str} {d : Int} (h0 : 0 ≤ d) (h1 : d < (ts.length : Nat)) : ∃ t, atI (ts.map V.str) d = some (.str t) ∧ t ∈ ts := by
  have lt : d.toNat < ts.length := by omega
  exact ⟨ts[d.toNat], at_of (j := d.toNat) (by omega) (by rw [List.getElem?_map, List.getElem?_eq_getElem lt]; rfl), List.getElem_mem lt⟩
theorem ok_box_fault (T : Txt K mg) : FnOk P w K mg base CX0 2 T.a_box_fault T.d_box_fault ["_law_bag_here", "_law_loops_here"] (sp_box_fault K) := by
  refine T.F_box_fault.ok sc_box_fault (fun vs H Q E h => ?_) (fun cdv A outer s H vs Q E hr h => ?_)
  · obtain ⟨b, n, v, rfl, _⟩ := h
    rfl
  · obtain ⟨b, n, v, rfl, bag, hn, hG, kk⟩ := h
    obtain ⟨G, xs, rfl, gA⟩ := id hG
    have gA : GdA H G xs := gA
    refine ⟨_, (pss_cons (ps_set (i := 2) sc_box_fault.nd rfl (Or.inl rfl) (pe_call (ok_draw T) (hr.mono (by decide)) (by rfl) T.g_draw T.F_draw.kp T.b_draw .nil pass0 (pa_cons (pv 0) (pa_cons pe_int pa_nil))))
      (pss_cons (ps_set (i := 3) sc_box_fault.nd rfl (Or.inl rfl) (pe_ix ix_list (pv 1) (pe_call (ok_draw T) (hr.mono (by decide)) (by rfl) T.g_draw T.F_draw.kp T.b_draw .nil pass0 (pa_cons (pv 0) (pa_cons (pe_callB call_len_seq (by rfl) T.z_len PySem.boot_len (pa_cons (pv 1) pa_nil)) pa_nil))) (fun _ _ => rfl)))
      (pss_cons (ps_set (i := 4) sc_box_fault.nd rfl (Or.inl rfl) (pe_ix ix_list (pv 3) (pe_call (ok_draw T) (hr.mono (by decide)) (by rfl) T.g_draw T.F_draw.kp T.b_draw .nil pass0 (pa_cons (pv 0) (pa_cons (pe_callB call_len_seq (by rfl) T.z_len PySem.boot_len (pa_cons (pv 3) pa_nil)) pa_nil))) (fun _ _ => rfl)))
      (pss_cons (ps_set (i := 5) sc_box_fault.nd rfl (Or.inl rfl) (pe_ix ix_list (pv 1) (pe_call (ok_draw T) (hr.mono (by decide)) (by rfl) T.g_draw T.F_draw.kp T.b_draw .nil pass0 (pa_cons (pv 0) (pa_cons (pe_callB call_len_seq (by rfl) T.z_len PySem.boot_len (pa_cons (pv 1) pa_nil)) pa_nil))) (fun _ _ => rfl)))
      (pss_cons (ps_set (i := 6) sc_box_fault.nd rfl (Or.inl rfl) (pe_ix ix_list (pv 5) (pe_call (ok_draw T) (hr.mono (by decide)) (by rfl) T.g_draw T.F_draw.kp T.b_draw .nil pass0 (pa_cons (pv 0) (pa_cons (pe_callB call_len_seq (by rfl) T.z_len PySem.boot_len (pa_cons (pv 5) pa_nil)) pa_nil))) (fun _ _ => rfl)))
      (C8.pss_cut (ps_if (pt_cmpR op_eq (pv 2) pe_int (nomark _))
        (pss_one (ps_asg (pe_ix ix_list (pv 6) pe_int (fun _ _ => rfl)) (pg_sub (pv 4) pe_int set_list)))
        pss_nil)
      (C8.pss_cut (ps_if (pt_cmpR op_eq (pv 2) pe_int (nomark _))
        (pss_one (ps_asg (pe_ix ix_list (pe_lst (pa_cons pe_str (pa_cons pe_str (pa_cons pe_str (pa_cons pe_str (pa_cons pe_str (pa_cons pe_str pa_nil))))))) (pe_call (ok_draw T) (hr.mono (by decide)) (by rfl) T.g_draw T.F_draw.kp T.b_draw .nil pass0 (pa_cons (pv 0) (pa_cons pe_int pa_nil))) (fun _ _ => rfl)) (pg_sub (pv 4) pe_int set_list)))
        pss_nil)
      (C8.pss_cut (ps_if (pt_cmpR op_eq (pv 2) pe_int (nomark _))
        (pss_one (ps_asg (pe_ix ix_list (pe_lst (pa_cons pe_str (pa_cons pe_str (pa_cons pe_str (pa_cons pe_str (pa_cons pe_str pa_nil)))))) (pe_call (ok_draw T) (hr.mono (by decide)) (by rfl) T.g_draw T.F_draw.kp T.b_draw .nil pass0 (pa_cons (pv 0) (pa_cons pe_int pa_nil))) (fun _ _ => rfl)) (pg_sub (pv 4) pe_int set_list)))
        pss_nil)
      (pss_one (ps_ret (pv 1))))))))))), ?_⟩
    refine ⟨_, rfl, b, n, 7, rfl, by decide, by decide, bag, by omega, fun H1 way w0 w1 bag1 bt1 => ?_⟩
    have gA := gA.bt bag bt1
    have lx := gA.2.1
    have lx2 := gA.2.2.1
    refine ⟨_, rfl, _, rfl, _, rfl, G, xs, rfl, .inl (SqL.of gA.1), b, _, _, rfl, by omega, big (by omega), bag1, by omega, fun H2 d d0 d1 bag2 bt2 => ?_⟩
    have gA := gA.bt bag1 bt2
    obtain ⟨x, ea, mx⟩ := drawn d0 d1
    refine ⟨G, _, _, x, rfl, rfl, SqL.of gA.1, ea, ?_⟩
    obtain ⟨r, ys, rfl, rA⟩ := gA.2.2.2 x mx
    have rA : RwA H2 r ys := rA
    have ly := rA.2.1
    have ly2 := rA.2.2.1
    refine ⟨_, rfl, _, rfl, _, rfl, r, ys, rfl, .inl (SqL.of rA.1), b, _, _, rfl, by omega, big (by omega), bag2, by omega, fun H3 d' d0' d1' bag3 bt3 => ?_⟩
    have gA := gA.bt bag2 bt3
    have rA := rA.bt bag2 bt3
    obtain ⟨y, eb, my⟩ := drawn d0' d1'
    refine ⟨r, _, _, y, rfl, rfl, SqL.of rA.1, eb, ?_⟩
    obtain ⟨qb, s, t, rfl, bA⟩ := rA.2.2.2 y my
    have bA : BxA H3 qb s t := bA
    refine ⟨_, rfl, _, rfl, _, rfl, G, xs, rfl, .inl (SqL.of gA.1), b, _, _, rfl, by omega, big (by omega), bag3, by omega, fun H4 e e0 e1 bag4 bt4 => ?_⟩
    have gA := gA.bt bag3 bt4
    have bA := bA.bt bag3 bt4
    obtain ⟨x2, ec, mx2⟩ := drawn e0 e1
    refine ⟨G, _, _, x2, rfl, rfl, SqL.of gA.1, ec, ?_⟩
    obtain ⟨o, zs, rfl, oA⟩ := gA.2.2.2 x2 mx2
    have oA : RwA H4 o zs := oA
    have lz := oA.2.1
    have lz2 := oA.2.2.1
    refine ⟨_, rfl, _, rfl, _, rfl, o, zs, rfl, .inl (SqL.of oA.1), b, _, _, rfl, by omega, big (by omega), bag4, by omega, fun H5 e' e0' e1' bag5 bt5 => ?_⟩
    have gA := gA.bt bag4 bt5
    have bA := bA.bt bag4 bt5
    have oA := oA.bt bag4 bt5
    obtain ⟨z, ed, mz⟩ := drawn e0' e1'
    refine ⟨o, _, _, z, rfl, rfl, SqL.of oA.1, ed, ?_⟩
    obtain ⟨qt, s2, t2, rfl, tA⟩ := oA.2.2.2 z mz
    have tA : BxA H5 qt s2 t2 := tA
    clear rA oA
    -- three tests, each may change the box
    have set0 : ∀ {H' : Hp} {m : Nat} {u s' t' : Str}, GdA H' G xs → Bag H' b m → BxA H' qb s' t' → u.length ≤ 20 → GdA (upd H' qb (.lst [.str u, .str t'])) G xs ∧ Bag (upd H' qb (.lst [.str u, .str t'])) b m ∧ BxA (upd H' qb (.lst [.str u, .str t'])) qb u t' := fun {H' m u s' t'} g bg bx lu => by
      refine ⟨⟨by rw [upd_ne (refs_off g.1 (fun y m => (g.2.2.2 y m).ref) bx.1)]; exact g.1, g.2.1, g.2.2.1, fun x m => (g.2.2.2 x m).mut bx.1 lu bx.2.2⟩, bag_mut bg bx.1, upd_same, lu, bx.2.2⟩
    have set1 : ∀ {H' : Hp} {m : Nat} {u s' t' : Str}, GdA H' G xs → Bag H' b m → BxA H' qb s' t' → u.length ≤ 20 → GdA (upd H' qb (.lst [.str s', .str u])) G xs ∧ Bag (upd H' qb (.lst [.str s', .str u])) b m ∧ BxA (upd H' qb (.lst [.str s', .str u])) qb s' u := fun {H' m u s' t'} g bg bx lu => by
      refine ⟨⟨by rw [upd_ne (refs_off g.1 (fun y m => (g.2.2.2 y m).ref) bx.1)]; exact g.1, g.2.1, g.2.2.1, fun x m => (g.2.2.2 x m).mut bx.1 bx.2.1 lu⟩, bag_mut bg bx.1, upd_same, bx.2.1, lu⟩
    refine ⟨fun σ H' => ∃ s' t', σ = [some (.ref b), some (.ref G), some (.int way), some (.ref r), some (.ref qb), some (.ref o), some (.ref qt)] ∧ GdA H' G xs ∧ Bag H' b (n + 1 + 1 + 1 + 1 + 1) ∧ BxA H' qb s' t', ?_, ?_⟩
    · refine ⟨_, rfl, rfl, _, rfl, ite2 (fun c => ?_) (fun c => ?_)⟩
      · refine ⟨_, rfl, qt, _, 0, _, rfl, rfl, SqL.of tA.1, atI_nat (j := 0) rfl, ?_⟩
        refine ⟨_, rfl, qb, _, 0, 0, rfl, rfl, bA.1, rfl, ?_⟩
        obtain ⟨g, bg, bx⟩ := set0 gA bag5 bA tA.2.1
        exact ⟨s2, t, rfl, g, bg, bx⟩
      · exact ⟨s, t, rfl, gA, bag5, bA⟩
    rintro σ H' ⟨s', t', rfl, gA, bag', bA⟩
    refine ⟨fun σ H' => ∃ s' t', σ = [some (.ref b), some (.ref G), some (.int way), some (.ref r), some (.ref qb), some (.ref o), some (.ref qt)] ∧ GdA H' G xs ∧ Bag H' b (n + 1 + 1 + 1 + 1 + 1 + 1) ∧ BxA H' qb s' t', ?_, ?_⟩
    · refine ⟨_, rfl, rfl, _, rfl, ite2 (fun c => ?_) (fun c => ?_)⟩
      · refine ⟨by show 6 ≤ sizeLine; decide, fun u hu => ?_⟩
        have su := same_new (o := .lst [V.str "0", V.str "9999", V.str "11111", V.str "+1", V.str "loop", V.str "1,"]) hu
        have ub := Lm.bag_off bag' hu
        have hu1 : upd H' u (.lst [V.str "0", V.str "9999", V.str "11111", V.str "+1", V.str "loop", V.str "1,"]) u = some (.lst ((["0", "9999", "11111", "+1", "loop", "1,"] : List Str).map V.str)) := upd_same
        have gA : GdA _ G xs := ⟨su _ _ gA.1, gA.2.1, gA.2.2.1, fun x m => (gA.2.2.2 x m).same su⟩
        have bA : BxA _ qb s' t' := ⟨su _ _ bA.1, bA.2⟩
        have bg1 := bag'.keep su
        generalize upd H' u (.lst [V.str "0", V.str "9999", V.str "11111", V.str "+1", V.str "loop", V.str "1,"]) = A1 at *
        refine ⟨_, rfl, b, _, 6, rfl, by decide, by decide, bg1, by omega, fun A2 d f0 f1 bg2 bt6 => ?_⟩
        have hu2 := bt6.keep _ _ ub hu1
        have gA := gA.bt bg1 bt6
        have bA := bA.bt bg1 bt6
        obtain ⟨tx, ex, mt⟩ := drawnT (ts := ["0", "9999", "11111", "+1", "loop", "1,"]) f0 (by simpa using f1)
        have lt : tx.length ≤ 20 := by
          have all : ∀ t ∈ (["0", "9999", "11111", "+1", "loop", "1,"] : List Str), t.length ≤ 20 := by decide +kernel
          exact all tx mt
        refine ⟨u, _, _, _, rfl, rfl, SqL.of hu2, ex, ?_⟩
        refine ⟨_, rfl, qb, _, 0, 0, rfl, rfl, bA.1, rfl, ?_⟩
        obtain ⟨g, bg, bx⟩ := set0 gA bg2 bA lt
        exact ⟨_, _, rfl, g, bg, bx⟩
      · exact ⟨s', t', rfl, gA, bag'.mono (by omega), bA⟩
    rintro σ H' ⟨s', t', rfl, gA, bag', bA⟩
    refine ⟨fun σ H' => ∃ s' t', σ = [some (.ref b), some (.ref G), some (.int way), some (.ref r), some (.ref qb), some (.ref o), some (.ref qt)] ∧ GdA H' G xs ∧ Bag H' b (n + 1 + 1 + 1 + 1 + 1 + 1 + 1) ∧ BxA H' qb s' t', ?_, ?_⟩
    · refine ⟨_, rfl, rfl, _, rfl, ite2 (fun c => ?_) (fun c => ?_)⟩
      · refine ⟨by show 5 ≤ sizeLine; decide, fun u hu => ?_⟩
        have su := same_new (o := .lst [V.str "Shy", V.str "plain,", V.str "shyly", V.str "24", V.str "pla"]) hu
        have ub := Lm.bag_off bag' hu
        have hu1 : upd H' u (.lst [V.str "Shy", V.str "plain,", V.str "shyly", V.str "24", V.str "pla"]) u = some (.lst ((["Shy", "plain,", "shyly", "24", "pla"] : List Str).map V.str)) := upd_same
        have gA : GdA _ G xs := ⟨su _ _ gA.1, gA.2.1, gA.2.2.1, fun x m => (gA.2.2.2 x m).same su⟩
        have bA : BxA _ qb s' t' := ⟨su _ _ bA.1, bA.2⟩
        have bg1 := bag'.keep su
        generalize upd H' u (.lst [V.str "Shy", V.str "plain,", V.str "shyly", V.str "24", V.str "pla"]) = A1 at *
        refine ⟨_, rfl, b, _, 5, rfl, by decide, by decide, bg1, by omega, fun A2 d f0 f1 bg2 bt6 => ?_⟩
        have hu2 := bt6.keep _ _ ub hu1
        have gA := gA.bt bg1 bt6
        have bA := bA.bt bg1 bt6
        obtain ⟨tx, ex, mt⟩ := drawnT (ts := ["Shy", "plain,", "shyly", "24", "pla"]) f0 (by simpa using f1)
        have lt : tx.length ≤ 20 := by
          have all : ∀ t ∈ (["Shy", "plain,", "shyly", "24", "pla"] : List Str), t.length ≤ 20 := by decide +kernel
          exact all tx mt
        refine ⟨u, _, _, _, rfl, rfl, SqL.of hu2, ex, ?_⟩
        refine ⟨_, rfl, qb, _, 1, 1, rfl, rfl, bA.1, rfl, ?_⟩
        obtain ⟨g, bg, bx⟩ := set1 gA bg2 bA lt
        exact ⟨_, _, rfl, g, bg, bx⟩
      · exact ⟨s', t', rfl, gA, bag'.mono (by omega), bA⟩
    rintro σ H' ⟨s', t', rfl, gA, bag', bA⟩
    exact ⟨_, rfl, kk _ _ _ ⟨G, xs, rfl, gA⟩ bag' (by omega)⟩
end
end K10

namespace K10
open PySem L2 Wm TL Dv De
section
variable {P : Program} {w : World} {K : PySem.W.Frag} {mg : Str → Option Value} {base : Heap}
theorem joinL_len {S : List Nat} : ∀ {ps : List (List Nat)}, (joinL S ps).length ≤ (ps.map List.length).sum + ps.length * S.length
  | [] => by simp [joinL]
  | [p] => by simp [joinL]
  | p :: q :: r => by
    have ih := joinL_len (S := S) (ps := q :: r)
    have e : (joinL S (p :: q :: r)).length = p.length + (S.length + (joinL S (q :: r)).length) := by
      show (p ++ (S ++ joinL S (q :: r))).length = _
      rw [List.length_append, List.length_append]
    rw [e, List.map_cons, List.sum_cons, List.length_cons (a := p), Nat.succ_mul]
    omega
theorem join_len (y : Str) (ps : List Str) : (Txt.join y ps).length ≤ (ps.map (·.length)).sum + ps.length * y.length := by
  rw [len_tl, join_eq, tl_join, len_tl y]
  refine Nat.le_trans joinL_len ?_
  rw [List.length_map, List.map_map]
  have e : ps.map (List.length ∘ tl) = ps.map (·.length) := List.map_congr_left fun p _ => (len_tl p).symm
  rw [e]
  exact Nat.le_refl _
theorem sum_lens {n : Nat} : ∀ {ts : List Str}, (∀ t ∈ ts, t.length ≤ n) → (ts.map (·.length)).sum ≤ n * ts.length
  | [], _ => by simp
  | t :: ts, h => by
    have ih := sum_lens (ts := ts) fun x m => h x (List.mem_cons_of_mem _ m)
    have := h t (by simp)
    rw [List.map_cons, List.sum_cons, List.length_cons, Nat.mul_succ]
    omega
theorem ixn {n j : Nat} (hj : j < n) : ixN n (j : Int) = some j := by
  unfold ixN
  rw [if_pos (by omega), if_pos (by omega)]
  simp
theorem set_small {ts : List Str} {i : Nat} {u : Str} (h : ∀ t ∈ ts, t.length ≤ 10) (l : u.length ≤ 10) : ∀ t ∈ ts.set i u, t.length ≤ 10 := fun t m => by
  rcases List.mem_or_eq_of_mem_set m with m | rfl
  · exact h t m
  · exact l
theorem str_one : ∀ d : Nat, d < 8 → (Str.ofString (toString ((1 : Int) + (d : Int)))).length ≤ 10 := by decide +kernel
theorem log_one : ∀ d : Nat, d < 8 → ((1 : Int) + (d : Int)).natAbs.log2 < 1920 := by decide +kernel
theorem fresh_bt {b q : Addr} {n : Nat} {H H' : Hp} (bt : But b H H') (bag : Bag H' b n) (h : H' q = none) : H q = none := by
  cases e : H q with
  | none => rfl
  | some o =>
    have ne : q ≠ b := fun z => by
      rw [z] at h
      obtain ⟨_, _, _, _, _, _, hb, _⟩ := bag
      rw [hb] at h
      cases h
    rw [bt.keep _ _ ne e] at h
    cases h
theorem ok_head (T : Txt K mg) : FnOk P w K mg base CX0 2 T.a_head T.d_head ["_law_bag_here"] (sp_head K) := by
  refine T.F_head.ok sc_head (fun vs H Q E h => ?_) (fun cdv A outer s H vs Q E hr h => ?_)
  · obtain ⟨b, n, rfl, _⟩ := h
    rfl
  · obtain ⟨b, n, rfl, bag, hn, kk⟩ := h
    refine ⟨_, (pss_cons (ps_set (i := 1) sc_head.nd rfl (Or.inl rfl) (pe_lst (pa_cons pe_str (pa_cons (pe_callTy call_str_int (by rfl) T.z_str (by decide +kernel) (pa_cons (pe_op op_add pe_int (pe_call (ok_draw T) (hr.mono (by decide)) (by rfl) T.g_draw T.F_draw.kp T.b_draw .nil pass0 (pa_cons (pv 0) (pa_cons pe_int pa_nil)))) pa_nil)) (pa_cons pe_str (pa_cons pe_str pa_nil))))))
      (C8.pss_cut (ps_if (PW.pt (pw_and (pt_cmpR op_ne (pe_ix ix_list (pv 1) pe_int (fun _ _ => rfl)) pe_str (nomark _)) (pw_and1 (pt_cmpR op_eq (pe_call (ok_draw T) (hr.mono (by decide)) (by rfl) T.g_draw T.F_draw.kp T.b_draw .nil pass0 (pa_cons (pv 0) (pa_cons pe_int pa_nil))) pe_int (nomark _)))))
        (pss_one (ps_asg pe_str (pg_sub (pv 1) pe_int set_list)))
        pss_nil)
      (pss_cons (ps_set (i := 2) sc_head.nd rfl (Or.inl rfl) (pe_call (ok_draw T) (hr.mono (by decide)) (by rfl) T.g_draw T.F_draw.kp T.b_draw .nil pass0 (pa_cons (pv 0) (pa_cons pe_int pa_nil))))
      (C8.pss_cut (ps_if (pt_cmpR op_eq (pv 2) pe_int (nomark _))
        (pss_one (ps_asg (pe_ix ix_list (pe_lst (pa_cons pe_str (pa_cons pe_str (pa_cons pe_str (pa_cons pe_str (pa_cons pe_str (pa_cons pe_str pa_nil))))))) (pe_call (ok_draw T) (hr.mono (by decide)) (by rfl) T.g_draw T.F_draw.kp T.b_draw .nil pass0 (pa_cons (pv 0) (pa_cons pe_int pa_nil))) (fun _ _ => rfl)) (pg_sub (pv 1) pe_int set_list)))
        pss_nil)
      (C8.pss_cut (ps_if (pt_cmpR op_eq (pv 2) pe_int (nomark _))
        (pss_one (ps_asg (pe_ix ix_list (pe_lst (pa_cons pe_str (pa_cons pe_str (pa_cons pe_str (pa_cons pe_str (pa_cons pe_str (pa_cons pe_str pa_nil))))))) (pe_call (ok_draw T) (hr.mono (by decide)) (by rfl) T.g_draw T.F_draw.kp T.b_draw .nil pass0 (pa_cons (pv 0) (pa_cons pe_int pa_nil))) (fun _ _ => rfl)) (pg_sub (pv 1) pe_int set_list)))
        pss_nil)
      (C8.pss_cut (ps_if (pt_cmpR op_eq (pv 2) pe_int (nomark _))
        (pss_one (ps_asg (pe_ix ix_list (pe_lst (pa_cons pe_str (pa_cons pe_str (pa_cons pe_str (pa_cons pe_str pa_nil))))) (pe_call (ok_draw T) (hr.mono (by decide)) (by rfl) T.g_draw T.F_draw.kp T.b_draw .nil pass0 (pa_cons (pv 0) (pa_cons pe_int pa_nil))) (fun _ _ => rfl)) (pg_sub (pv 1) (pe_op op_mul pe_int (pe_call (ok_draw T) (hr.mono (by decide)) (by rfl) T.g_draw T.F_draw.kp T.b_draw .nil pass0 (pa_cons (pv 0) (pa_cons pe_int pa_nil)))) set_list)))
        pss_nil)
      (C8.pss_cut (ps_if (pt_cmpR op_eq (pv 2) pe_int (nomark _))
        (pss_one (ps_set (i := 1) sc_head.nd rfl (Or.inl rfl) (pe_slice sl_list (pv 1) po_none (po_some (pe_call (ok_draw T) (hr.mono (by decide)) (by rfl) T.g_draw T.F_draw.kp T.b_draw .nil pass0 (pa_cons (pv 0) (pa_cons pe_int pa_nil)))))))
        pss_nil)
      (C8.pss_cut (ps_if (pt_cmpR op_eq (pv 2) pe_int (nomark _))
        (pss_one (ps_expr (pe_bm PySem.F.plainAttrs_list PySem.F.slot_list_append PySem.F.type_list_append mt_append (pv 1) (pa_cons pe_str pa_nil))))
        pss_nil)
      (C8.pss_cut (ps_if (pt_cmpR op_eq (pv 2) pe_int (nomark _))
        (pss_one (ps_set (i := 1) sc_head.nd rfl (Or.inl rfl) (pe_lst (pa_cons pe_str (pa_cons pe_str (pa_cons pe_str (pa_cons pe_str pa_nil)))))))
        pss_nil)
      (C8.pss_cut (ps_if (PW.pt (pw_or (pt_cmpR op_eq (pv 2) pe_int (nomark _)) (pw_or1 (pt_cmpR op_eq (pv 2) pe_int (nomark _)))))
        (pss_one (ps_asg (pe_ix ix_list (pe_lst (pa_cons pe_str (pa_cons pe_str pa_nil))) (pe_call (ok_draw T) (hr.mono (by decide)) (by rfl) T.g_draw T.F_draw.kp T.b_draw .nil pass0 (pa_cons (pv 0) (pa_cons pe_int pa_nil))) (fun _ _ => rfl)) (pg_sub (pv 1) pe_int set_list)))
        pss_nil)
      (pss_one (ps_ret (pe_join pe_str (pv 1)))))))))))))), ?_⟩
    refine ⟨_, rfl, b, n, 8, rfl, by decide, by decide, bag, by omega, fun H1 d0 a0 a1 bag1 bt1 => ?_⟩
    obtain ⟨d, rfl⟩ : ∃ d : Nat, d0 = (d : Int) := ⟨d0.toNat, by omega⟩
    refine ⟨_, _, rfl, rfl, ?_⟩
    refine ⟨_, rfl, log_one d (by omega), by show 4 ≤ sizeLine; decide, fun W nW => ?_⟩
    have wb := Lm.bag_off bag1 nW
    have nW0 : H W = none := by
      cases e : H W with
      | none => rfl
      | some o =>
        have ne : W ≠ b := fun z => by
          rw [z] at nW
          obtain ⟨_, _, _, _, _, _, hb, _⟩ := bag1
          rw [hb] at nW
          cases nW
        rw [bt1.keep _ _ ne e] at nW
        cases nW
    have hW : upd H1 W (.lst [V.str "rounds", V.str (Str.ofString (toString ((1 : Int) + (d : Int)))), V.str "hear", V.str "1"]) W = some (.lst (([("rounds" : Str), Str.ofString (toString ((1 : Int) + (d : Int))), "hear", "1"]).map V.str)) := upd_same
    have sm : ∀ t ∈ [("rounds" : Str), Str.ofString (toString ((1 : Int) + (d : Int))), "hear", "1"], t.length ≤ 10 := fun t m => by
      rcases List.mem_cons.mp m with rfl | m
      · decide +kernel
      · rcases List.mem_cons.mp m with rfl | m
        · exact str_one d (by omega)
        · have all : ∀ t ∈ [("hear" : Str), "1"], t.length ≤ 10 := by decide +kernel
          exact all t m
    have bgW := bag1.keep (same_new (o := .lst [V.str "rounds", V.str (Str.ofString (toString ((1 : Int) + (d : Int)))), V.str "hear", V.str "1"]) nW)
    have btW := bt1.trans (But.of (same_new (o := .lst [V.str "rounds", V.str (Str.ofString (toString ((1 : Int) + (d : Int)))), V.str "hear", V.str "1"]) nW))
    generalize upd H1 W (.lst [V.str "rounds", V.str (Str.ofString (toString ((1 : Int) + (d : Int)))), V.str "hear", V.str "1"]) = H2 at *
    generalize Str.ofString (toString ((1 : Int) + (d : Int))) = w1 at *
    refine ⟨fun σ H' => ∃ (u : Str), σ = [some (.ref b), some (.ref W), none] ∧ H' W = some (.lst (([("rounds" : Str), w1, "hear", u]).map V.str)) ∧ u.length ≤ 10 ∧ Bag H' b (n + 2) ∧ But b H H', ?_, ?_⟩
    · have one10 : ("1" : Str).length ≤ 10 := by decide +kernel
      have two10 : ("2" : Str).length ≤ 10 := by decide +kernel
      refine ⟨_, rfl, W, _, 1, _, rfl, rfl, SqL.of hW, atI_nat (j := 1) rfl, rfl, _, rfl, ite2 (fun c => ?_) (fun c => ?_)⟩
      · refine ⟨_, rfl, b, _, 2, rfl, by decide, by decide, bgW, by omega, fun H3 e e0 e1 bg3 bt3 => ?_⟩
        have hW3 := bt3.keep _ _ wb hW
        have btA := btW.trans bt3
        refine ⟨rfl, _, rfl, ite2 (fun c => ?_) (fun c => ?_)⟩
        · refine ⟨_, rfl, W, _, 3, 3, rfl, rfl, hW3, rfl, ?_⟩
          exact ⟨"2", rfl, by rw [upd_same]; rfl, two10, Bag.put bag nW0 btA (bg3.mono (by omega)), btA.put nW0⟩
        · exact ⟨"1", rfl, hW3, one10, bg3.mono (by omega), btA⟩
      · exact ⟨"1", rfl, hW, one10, bgW.mono (by omega), btW⟩
    rintro σ H3 ⟨u, rfl, hW3, lu, bg3, bt3⟩
    refine ⟨_, rfl, b, _, 16, rfl, by decide, by decide, bg3, by omega, fun H4 way w0 w16 bg4 bt4 => ?_⟩
    have hW4 := bt4.keep _ _ wb hW3
    have bt34 := bt3.trans bt4
    have sm4 : ∀ t ∈ [("rounds" : Str), w1, "hear", u], t.length ≤ 10 := fun t m => by
      rcases List.mem_cons.mp m with rfl | m
      · decide +kernel
      · rcases List.mem_cons.mp m with rfl | m
        · exact sm _ (by simp)
        · rcases List.mem_cons.mp m with rfl | m
          · decide +kernel
          · rw [List.mem_singleton.mp m]
            exact lu
    refine ⟨fun σ H' => ∃ (W : Addr) (ts : List Str), σ = [some (.ref b), some (.ref W), some (.int way)] ∧ H W = none ∧ H' W = some (.lst (ts.map V.str)) ∧ ts.length ≤ 4 ∧ (way ≠ 3 ∧ way ≠ 4 → ts.length = 4) ∧ (∀ t ∈ ts, t.length ≤ 10) ∧ Bag H' b (n + 4) ∧ But b H H', ?_, ?_⟩
    · have H4e := hW4
      refine ⟨_, rfl, rfl, _, rfl, ite2 (fun c => ?_) (fun c => ?_)⟩
      · have wy := V.int.inj (of_decide_eq_true c)
        have nW := nW0
        have hW := hW4
        have bg := bg4
        have bt := bt34
        have small := sm4
        have l5 : ([("rounds" : Str), w1, "hear", u]).length ≤ 4 := by show 4 ≤ 4; decide
        have four : way ≠ 3 ∧ way ≠ 4 → ([("rounds" : Str), w1, "hear", u]).length = 4 := fun _ => rfl
        refine ⟨by show 6 ≤ sizeLine; decide, fun uu hu => ?_⟩
        have su := same_new (o := .lst [V.str "0", V.str "9", V.str "10", V.str "", V.str "x", V.str "-1"]) hu
        have ub := Lm.bag_off bg hu
        have hu1 : upd H4 uu (.lst [V.str "0", V.str "9", V.str "10", V.str "", V.str "x", V.str "-1"]) uu = some (.lst ((["0", "9", "10", "", "x", "-1"] : List Str).map V.str)) := upd_same
        have hW1 := su _ _ hW
        have bg1 := bg.keep su
        have bt1 := bt.trans (But.of su)
        generalize upd H4 uu (.lst [V.str "0", V.str "9", V.str "10", V.str "", V.str "x", V.str "-1"]) = A1 at *
        refine ⟨_, rfl, b, _, 6, rfl, by decide, by decide, bg1, by omega, fun A2 d f0 f1 bg2 bt6 => ?_⟩
        have hu2 := bt6.keep _ _ ub hu1
        have hW2 := bt6.keep _ _ wb hW1
        obtain ⟨tx, ex, mt⟩ := drawnT (ts := ["0", "9", "10", "", "x", "-1"]) f0 (by simpa using f1)
        have lt : tx.length ≤ 10 := by
          have all : ∀ t ∈ (["0", "9", "10", "", "x", "-1"] : List Str), t.length ≤ 10 := by decide +kernel
          exact all tx mt
        refine ⟨uu, _, _, _, rfl, rfl, SqL.of hu2, ex, ?_⟩
        have l4 : ([("rounds" : Str), w1, "hear", u]).length = 4 := four (by omega)
        refine ⟨_, rfl, W, _, 1, 1, rfl, rfl, hW2, by rw [List.length_map, l4]; rfl, ?_⟩
        have btA := bt1.trans bt6
        refine ⟨W, [("rounds" : Str), w1, "hear", u].set 1 tx, rfl, nW, by rw [upd_same, List.map_set], by rw [List.length_set]; exact l5, fun _ => by rw [List.length_set]; exact l4, set_small small lt, Bag.put bag nW btA (bg2.mono (by omega)), btA.put nW⟩
      · exact ⟨W, ["rounds", w1, "hear", u], rfl, nW0, hW4, by show 4 ≤ 4; decide, fun _ => rfl, sm4, bg4.mono (by omega), bt34⟩
    clear hW hW3 hW4 sm sm4 bgW btW bt1 bag1 bg3 bt3 bg4 bt4 bt34 wb nW nW0
    rintro σ H' ⟨W, ts, rfl, nW, hW, l5, four, small, bg, bt⟩
    have wb := Lm.bag_off bag nW
    refine ⟨fun σ H' => ∃ (W : Addr) (ts : List Str), σ = [some (.ref b), some (.ref W), some (.int way)] ∧ H W = none ∧ H' W = some (.lst (ts.map V.str)) ∧ ts.length ≤ 4 ∧ (way ≠ 3 ∧ way ≠ 4 → ts.length = 4) ∧ (∀ t ∈ ts, t.length ≤ 10) ∧ Bag H' b (n + 5) ∧ But b H H', ?_, ?_⟩
    · refine ⟨_, rfl, rfl, _, rfl, ite2 (fun c => ?_) (fun c => ?_)⟩
      · have wy := V.int.inj (of_decide_eq_true c)
        refine ⟨by show 6 ≤ sizeLine; decide, fun u hu => ?_⟩
        have su := same_new (o := .lst [V.str "0", V.str "3", V.str "12", V.str "", V.str "one", V.str "2"]) hu
        have ub := Lm.bag_off bg hu
        have hu1 : upd H' u (.lst [V.str "0", V.str "3", V.str "12", V.str "", V.str "one", V.str "2"]) u = some (.lst ((["0", "3", "12", "", "one", "2"] : List Str).map V.str)) := upd_same
        have hW1 := su _ _ hW
        have bg1 := bg.keep su
        have bt1 := bt.trans (But.of su)
        generalize upd H' u (.lst [V.str "0", V.str "3", V.str "12", V.str "", V.str "one", V.str "2"]) = A1 at *
        refine ⟨_, rfl, b, _, 6, rfl, by decide, by decide, bg1, by omega, fun A2 d f0 f1 bg2 bt6 => ?_⟩
        have hu2 := bt6.keep _ _ ub hu1
        have hW2 := bt6.keep _ _ wb hW1
        obtain ⟨tx, ex, mt⟩ := drawnT (ts := ["0", "3", "12", "", "one", "2"]) f0 (by simpa using f1)
        have lt : tx.length ≤ 10 := by
          have all : ∀ t ∈ (["0", "3", "12", "", "one", "2"] : List Str), t.length ≤ 10 := by decide +kernel
          exact all tx mt
        refine ⟨u, _, _, _, rfl, rfl, SqL.of hu2, ex, ?_⟩
        have l4 : ts.length = 4 := four (by omega)
        refine ⟨_, rfl, W, _, 3, 3, rfl, rfl, hW2, by rw [List.length_map, l4]; rfl, ?_⟩
        have btA := bt1.trans bt6
        refine ⟨W, ts.set 3 tx, rfl, nW, by rw [upd_same, List.map_set], by rw [List.length_set]; exact l5, fun _ => by rw [List.length_set]; exact l4, set_small small lt, Bag.put bag nW btA (bg2.mono (by omega)), btA.put nW⟩
      · exact ⟨W, ts, rfl, nW, hW, by omega, four, small, bg.mono (by omega), bt⟩
    rintro σ H' ⟨W, ts, rfl, nW, hW, l5, four, small, bg, bt⟩
    have wb := Lm.bag_off bag nW
    refine ⟨fun σ H' => ∃ (W : Addr) (ts : List Str), σ = [some (.ref b), some (.ref W), some (.int way)] ∧ H W = none ∧ H' W = some (.lst (ts.map V.str)) ∧ ts.length ≤ 4 ∧ (way ≠ 3 ∧ way ≠ 4 → ts.length = 4) ∧ (∀ t ∈ ts, t.length ≤ 10) ∧ Bag H' b (n + 7) ∧ But b H H', ?_, ?_⟩
    · refine ⟨_, rfl, rfl, _, rfl, ite2 (fun c => ?_) (fun c => ?_)⟩
      · have wy := V.int.inj (of_decide_eq_true c)
        refine ⟨by show 4 ≤ sizeLine; decide, fun u hu => ?_⟩
        have su := same_new (o := .lst [V.str "round", V.str "rounds", V.str "hear", V.str ""]) hu
        have ub := Lm.bag_off bg hu
        have hu1 : upd H' u (.lst [V.str "round", V.str "rounds", V.str "hear", V.str ""]) u = some (.lst ((["round", "rounds", "hear", ""] : List Str).map V.str)) := upd_same
        have hW1 := su _ _ hW
        have bg1 := bg.keep su
        have bt1 := bt.trans (But.of su)
        generalize upd H' u (.lst [V.str "round", V.str "rounds", V.str "hear", V.str ""]) = A1 at *
        refine ⟨_, rfl, b, _, 4, rfl, by decide, by decide, bg1, by omega, fun A2 d f0 f1 bg2 bt6 => ?_⟩
        have hu2 := bt6.keep _ _ ub hu1
        have hW2 := bt6.keep _ _ wb hW1
        obtain ⟨tx, ex, mt⟩ := drawnT (ts := ["round", "rounds", "hear", ""]) f0 (by simpa using f1)
        have lt : tx.length ≤ 10 := by
          have all : ∀ t ∈ (["round", "rounds", "hear", ""] : List Str), t.length ≤ 10 := by decide +kernel
          exact all tx mt
        refine ⟨u, _, _, _, rfl, rfl, SqL.of hu2, ex, ?_⟩
        have l4 : ts.length = 4 := four (by omega)
        refine ⟨_, rfl, _, rfl, b, _, 2, rfl, by decide, by decide, bg2, by omega, fun A3 e e0 e1 bg3 bt7 => ?_⟩
        have hW3 := bt7.keep _ _ wb hW2
        obtain ⟨k, ek, k4⟩ : ∃ k : Nat, (2 : Int) * e = (k : Int) ∧ k < 4 := ⟨(2 * e).toNat, by omega, by omega⟩
        refine ⟨_, _, rfl, rfl, .inl ⟨by decide, by decide⟩, W, _, _, k, rfl, rfl, hW3, by rw [ek, List.length_map, l4]; exact ixn k4, ?_⟩
        have btA := (bt1.trans bt6).trans bt7
        refine ⟨W, ts.set k tx, rfl, nW, by rw [upd_same, List.map_set], by rw [List.length_set]; exact l5, fun _ => by rw [List.length_set]; exact l4, set_small small lt, Bag.put bag nW btA (bg3.mono (by omega)), btA.put nW⟩
      · exact ⟨W, ts, rfl, nW, hW, by omega, four, small, bg.mono (by omega), bt⟩
    rintro σ H' ⟨W, ts, rfl, nW, hW, l5, four, small, bg, bt⟩
    have wb := Lm.bag_off bag nW
    refine ⟨fun σ H' => ∃ (W : Addr) (ts : List Str), σ = [some (.ref b), some (.ref W), some (.int way)] ∧ H W = none ∧ H' W = some (.lst (ts.map V.str)) ∧ ts.length ≤ 4 ∧ (way ≠ 3 ∧ way ≠ 4 → ts.length = 4) ∧ (∀ t ∈ ts, t.length ≤ 10) ∧ Bag H' b (n + 8) ∧ But b H H', ?_, ?_⟩
    · refine ⟨_, rfl, rfl, _, rfl, ite2 (fun c => ?_) (fun c => ?_)⟩
      · have wy := V.int.inj (of_decide_eq_true c)
        refine ⟨_, rfl, _, rfl, b, _, 4, rfl, by decide, by decide, bg, by omega, fun A2 d f0 f1 bg2 bt6 => ?_⟩
        have hW2 := bt6.keep _ _ wb hW
        refine ⟨_, rfl, W, _, rfl, SqL.of hW2, fun q hq => ?_⟩
        have btA := bt.trans bt6
        have ec : cutV (ts.map V.str) none (some d) = (ts.take d.toNat).map V.str := by
          unfold cutV
          rw [HT.sIx_none, List.drop_zero, Nat.sub_zero, show (some d) = some ((d.toNat : Nat) : Int) by congr 1; omega, HT.sIx_nat, List.map_take, List.take_eq_take_iff]
          omega
        rw [ec]
        exact ⟨q, ts.take d.toNat, rfl, fresh_bt btA bg2 hq, upd_same, by rw [List.length_take]; omega, fun z => absurd wy z.1, fun t m => small t (List.mem_of_mem_take m), (bg2.keep (same_new hq)).mono (by omega), btA.trans (But.of (same_new hq))⟩
      · exact ⟨W, ts, rfl, nW, hW, by omega, four, small, bg.mono (by omega), bt⟩
    rintro σ H' ⟨W, ts, rfl, nW, hW, l5, four, small, bg, bt⟩
    have wb := Lm.bag_off bag nW
    refine ⟨fun σ H' => ∃ (W : Addr) (ts : List Str), σ = [some (.ref b), some (.ref W), some (.int way)] ∧ H W = none ∧ H' W = some (.lst (ts.map V.str)) ∧ ts.length ≤ 5 ∧ (way ≠ 3 ∧ way ≠ 4 → ts.length = 4) ∧ (∀ t ∈ ts, t.length ≤ 10) ∧ Bag H' b (n + 8) ∧ But b H H', ?_, ?_⟩
    · refine ⟨_, rfl, rfl, _, rfl, ite2 (fun c => ?_) (fun c => ?_)⟩
      · have wy := V.int.inj (of_decide_eq_true c)
        refine ⟨_, rfl, .inl ⟨rfl, _, SqL.of hW⟩, W, _, _, rfl, rfl, hW, by rw [List.length_map]; exact small_lt (by omega), ?_⟩
        refine ⟨W, ts ++ [("" : Str)], rfl, nW, by rw [upd_same, List.map_append]; rfl, ?_, fun z => absurd wy z.2, fun t m => ?_, Bag.put bag nW bt (bg.mono (by omega)), bt.put nW⟩
        · rw [List.length_append]
          show ts.length + 1 ≤ 5
          omega
        · rcases List.mem_append.mp m with m | m
          · exact small t m
          · rw [List.mem_singleton.mp m]
            decide +kernel
      · exact ⟨W, ts, rfl, nW, hW, by omega, four, small, bg.mono (by omega), bt⟩
    rintro σ H' ⟨W, ts, rfl, nW, hW, l5, four, small, bg, bt⟩
    have wb := Lm.bag_off bag nW
    refine ⟨fun σ H' => ∃ (W : Addr) (ts : List Str), σ = [some (.ref b), some (.ref W), some (.int way)] ∧ H W = none ∧ H' W = some (.lst (ts.map V.str)) ∧ ts.length ≤ 5 ∧ (way ≠ 3 ∧ way ≠ 4 → ts.length = 4) ∧ (∀ t ∈ ts, t.length ≤ 10) ∧ Bag H' b (n + 8) ∧ But b H H', ?_, ?_⟩
    · refine ⟨_, rfl, rfl, _, rfl, ite2 (fun c => ?_) (fun c => ?_)⟩
      · have wy := V.int.inj (of_decide_eq_true c)
        refine ⟨by show 4 ≤ sizeLine; decide, fun q hq => ?_⟩
        exact ⟨q, ["rounds", "1", "hear", "2"], rfl, fresh_bt bt bg hq, upd_same, by show 4 ≤ 5; decide, fun _ => rfl, by decide +kernel, (bg.keep (same_new hq)).mono (by omega), bt.trans (But.of (same_new hq))⟩
      · exact ⟨W, ts, rfl, nW, hW, by omega, four, small, bg.mono (by omega), bt⟩
    rintro σ H' ⟨W, ts, rfl, nW, hW, l5, four, small, bg, bt⟩
    have wb := Lm.bag_off bag nW
    refine ⟨fun σ H' => ∃ (W : Addr) (ts : List Str), σ = [some (.ref b), some (.ref W), some (.int way)] ∧ H W = none ∧ H' W = some (.lst (ts.map V.str)) ∧ ts.length ≤ 5 ∧ (way ≠ 3 ∧ way ≠ 4 → ts.length = 4) ∧ (∀ t ∈ ts, t.length ≤ 10) ∧ Bag H' b (n + 9) ∧ But b H H', ?_, ?_⟩
    · refine ⟨_, rfl, rfl, _, rfl, ite2 (fun c => ?_) (fun c => ?_)⟩
      · have wy := V.int.inj (of_decide_eq_true c)
        refine iteT ?_
        refine ⟨by show 2 ≤ sizeLine; decide, fun u hu => ?_⟩
        have su := same_new (o := .lst [V.str "0", V.str "9"]) hu
        have ub := Lm.bag_off bg hu
        have hu1 : upd H' u (.lst [V.str "0", V.str "9"]) u = some (.lst ((["0", "9"] : List Str).map V.str)) := upd_same
        have hW1 := su _ _ hW
        have bg1 := bg.keep su
        have bt1 := bt.trans (But.of su)
        generalize upd H' u (.lst [V.str "0", V.str "9"]) = A1 at *
        refine ⟨_, rfl, b, _, 2, rfl, by decide, by decide, bg1, by omega, fun A2 d f0 f1 bg2 bt6 => ?_⟩
        have hu2 := bt6.keep _ _ ub hu1
        have hW2 := bt6.keep _ _ wb hW1
        obtain ⟨tx, ex, mt⟩ := drawnT (ts := ["0", "9"]) f0 (by simpa using f1)
        have lt : tx.length ≤ 10 := by
          have all : ∀ t ∈ (["0", "9"] : List Str), t.length ≤ 10 := by decide +kernel
          exact all tx mt
        refine ⟨u, _, _, _, rfl, rfl, SqL.of hu2, ex, ?_⟩
        have l4 : ts.length = 4 := four (by omega)
        refine ⟨_, rfl, W, _, 1, 1, rfl, rfl, hW2, by rw [List.length_map, l4]; rfl, ?_⟩
        have btA := bt1.trans bt6
        refine ⟨W, ts.set 1 tx, rfl, nW, by rw [upd_same, List.map_set], by rw [List.length_set]; exact l5, fun _ => by rw [List.length_set]; exact l4, set_small small lt, Bag.put bag nW btA (bg2.mono (by omega)), btA.put nW⟩
      · refine ⟨_, rfl, rfl, _, rfl, ite2 (fun c => ?_) (fun c => ?_)⟩
        · have wy := V.int.inj (of_decide_eq_true c)
          refine ⟨by show 2 ≤ sizeLine; decide, fun u hu => ?_⟩
          have su := same_new (o := .lst [V.str "0", V.str "9"]) hu
          have ub := Lm.bag_off bg hu
          have hu1 : upd H' u (.lst [V.str "0", V.str "9"]) u = some (.lst ((["0", "9"] : List Str).map V.str)) := upd_same
          have hW1 := su _ _ hW
          have bg1 := bg.keep su
          have bt1 := bt.trans (But.of su)
          generalize upd H' u (.lst [V.str "0", V.str "9"]) = A1 at *
          refine ⟨_, rfl, b, _, 2, rfl, by decide, by decide, bg1, by omega, fun A2 d f0 f1 bg2 bt6 => ?_⟩
          have hu2 := bt6.keep _ _ ub hu1
          have hW2 := bt6.keep _ _ wb hW1
          obtain ⟨tx, ex, mt⟩ := drawnT (ts := ["0", "9"]) f0 (by simpa using f1)
          have lt : tx.length ≤ 10 := by
            have all : ∀ t ∈ (["0", "9"] : List Str), t.length ≤ 10 := by decide +kernel
            exact all tx mt
          refine ⟨u, _, _, _, rfl, rfl, SqL.of hu2, ex, ?_⟩
          have l4 : ts.length = 4 := four (by omega)
          refine ⟨_, rfl, W, _, 1, 1, rfl, rfl, hW2, by rw [List.length_map, l4]; rfl, ?_⟩
          have btA := bt1.trans bt6
          refine ⟨W, ts.set 1 tx, rfl, nW, by rw [upd_same, List.map_set], by rw [List.length_set]; exact l5, fun _ => by rw [List.length_set]; exact l4, set_small small lt, Bag.put bag nW btA (bg2.mono (by omega)), btA.put nW⟩
        · exact ⟨W, ts, rfl, nW, hW, by omega, four, small, bg.mono (by omega), bt⟩
    rintro σ H' ⟨W, ts, rfl, nW, hW, l5, four, small, bg, bt⟩
    have wb := Lm.bag_off bag nW
    have cost := sum_lens small
    have sp1 : (" " : Str).length = 1 := by decide +kernel
    have lim : (ts.map (·.length)).sum + ts.length * (" " : Str).length ≤ 100 := by
      rw [sp1]
      omega
    refine ⟨⟨_, rfl⟩, _, rfl, _, _, ts, rfl, rfl, .inl (SqL.of hW), Nat.le_trans lim (by decide), ?_⟩
    exact kk _ _ _ (Nat.le_trans (join_len _ _) lim) bg (by omega) bt
end
end K10

namespace K10
open PySem L2 Wm TL Dv De
section
variable {P : Program} {w : World} {K : PySem.W.Frag} {mg : Str → Option Value} {base : Heap}
theorem cutV_to (ts : List Str) (k : Nat) : cutV (ts.map V.str) none (some (k : Int)) = (ts.take k).map V.str := by
  unfold cutV
  rw [HT.sIx_none, HT.sIx_nat, List.drop_zero, Nat.sub_zero, List.map_take, List.take_eq_take_iff]
  omega
theorem cutV_from (ts : List Str) (k : Nat) : cutV (ts.map V.str) (some (k : Int)) none = (ts.drop k).map V.str := by
  unfold cutV
  rw [HT.sIx_none, HT.sIx_nat, List.take_of_length_le (by rw [List.length_drop]; exact Nat.le_refl _), List.map_drop]
  by_cases c : k ≤ (ts.map V.str).length
  · rw [Nat.min_eq_left c]
  · rw [Nat.min_eq_right (by omega), List.drop_of_length_le (by omega), List.drop_of_length_le (by omega)]
theorem cutS_len (t : Str) (lo hi : Option Int) : (cutS t lo hi).length ≤ t.length := by
  show (((t.cps.toList.drop (HT.sIx t.length 0 lo)).take (HT.sIx t.length t.length hi - HT.sIx t.length 0 lo)).toArray).size ≤ _
  rw [List.size_toArray, List.length_take, List.length_drop]
  have := len_tl t
  unfold tl at this
  omega
theorem three_small {ts : List Str} {k j : Nat} {u : Str} (h : ∀ t ∈ ts, t.length ≤ 1000) (l : u.length ≤ 3000) : ∀ t ∈ ts.take k ++ [u] ++ ts.drop j, t.length ≤ 3000 := fun t m => by
  rcases List.mem_append.mp m with m | m
  · rcases List.mem_append.mp m with m | m
    · exact Nat.le_trans (h t (List.mem_of_mem_take m)) (by decide)
    · rw [List.mem_singleton.mp m]
      exact l
  · exact Nat.le_trans (h t (List.mem_of_mem_drop m)) (by decide)
theorem str_len (a b : Str) : (a ++ b).length = a.length + b.length := by
  rw [len_tl, len_tl, len_tl, tl_append, List.length_append]
theorem ok_row_fault (T : Txt K mg) : FnOk P w K mg base CX0 2 T.a_row_fault T.d_row_fault ["_law_bag_here", "_law_rows"] (sp_row_fault K) := by
  refine T.F_row_fault.ok sc_row_fault (fun vs H Q E h => ?_) (fun cdv A outer s H vs Q E hr h => ?_)
  · obtain ⟨b, p, n, ts, rfl, _⟩ := h
    rfl
  · obtain ⟨b, p, n, ts, rfl, bag, hn, pb, hp, t1, t5, small, kk⟩ := h
    refine ⟨_, (pss_cons (ps_set (i := 2) sc_row_fault.nd rfl (Or.inl rfl) (pe_call (ok_draw T) (hr.mono (by decide)) (by rfl) T.g_draw T.F_draw.kp T.b_draw .nil pass0 (pa_cons (pv 0) (pa_cons pe_int pa_nil))))
      (pss_cons (ps_set (i := 3) sc_row_fault.nd rfl (Or.inl rfl) (pe_call (ok_draw T) (hr.mono (by decide)) (by rfl) T.g_draw T.F_draw.kp T.b_draw .nil pass0 (pa_cons (pv 0) (pa_cons (pe_callB call_len_seq (by rfl) T.z_len PySem.boot_len (pa_cons (pv 1) pa_nil)) pa_nil))))
      (pss_cons (ps_set (i := 4) sc_row_fault.nd rfl (Or.inl rfl) (pe_ix ix_list (pv 1) (pv 3) (fun _ _ => rfl)))
      (pss_cons (ps_set (i := 5) sc_row_fault.nd rfl (Or.inl rfl) (pe_call (ok_draw T) (hr.mono (by decide)) (by rfl) T.g_draw T.F_draw.kp T.b_draw .nil pass0 (pa_cons (pv 0) (pa_cons (pe_op op_add (pe_callB call_len_str (by rfl) T.z_len PySem.boot_len (pa_cons (pv 4) pa_nil)) pe_int) pa_nil))))
      (pss_cons (ps_if (pt_cmpR op_eq (pv 2) pe_int (nomark _))
        (pss_one (ps_ret (pe_op op_cat (pe_op op_cat (pe_slice sl_list (pv 1) po_none (po_some (pv 3))) (pe_lst (pa_cons (pe_op op_add_str (pe_op op_add_str (pe_slice sl_str (pv 4) po_none (po_some (pv 5))) pe_str) (pe_slice sl_str (pv 4) (po_some (pv 5)) po_none)) pa_nil))) (pe_slice sl_list (pv 1) (po_some (pe_op op_add (pv 3) pe_int)) po_none))))
        pss_nil)
      (pss_cons (Tk0.ps_ifT op_eq (pv 2) (Tk0.pe_opT op_cat (Tk0.pe_opT op_cat (Tk0.PEt.of (pe_slice sl_list (pv 1) po_none (po_some (pv 3)))) (Tk0.pe_lst1T (Tk0.pe_replaceT (pv 4) (by decide +kernel)))) (Tk0.PEt.of (pe_slice sl_list (pv 1) (po_some (pe_op op_add (pv 3) pe_int)) po_none))) pss_nil (nomark _))
      (pss_cons (ps_if (pt_cmpR op_eq (pv 2) pe_int (nomark _))
        (pss_one (ps_ret (pe_op op_cat (pe_op op_cat (pe_slice sl_list (pv 1) po_none (po_some (pv 3))) (pe_lst (pa_cons pe_str pa_nil))) (pe_slice sl_list (pv 1) (po_some (pv 3)) po_none))))
        pss_nil)
      (pss_cons (ps_if (pt_cmpR op_eq (pv 2) pe_int (nomark _))
        (pss_one (ps_ret (pe_op op_cat (pv 1) (pe_lst (pa_cons (pe_ix ix_list (pe_lst (pa_cons pe_str (pa_cons pe_str (pa_cons pe_str (pa_cons pe_str (pa_cons pe_str pa_nil)))))) (pe_call (ok_draw T) (hr.mono (by decide)) (by rfl) T.g_draw T.F_draw.kp T.b_draw .nil pass0 (pa_cons (pv 0) (pa_cons pe_int pa_nil))) (fun _ _ => rfl)) pa_nil)))))
        pss_nil)
      (pss_cons (ps_if (pt_cmpR op_eq (pv 2) pe_int (nomark _))
        (pss_one (ps_ret (pe_op op_cat (pe_op op_cat (pe_slice sl_list (pv 1) po_none (po_some (pv 3))) (pe_lst (pa_cons (pe_slice sl_str (pv 4) po_none (po_some (pv 5))) pa_nil))) (pe_slice sl_list (pv 1) (po_some (pe_op op_add (pv 3) pe_int)) po_none))))
        pss_nil)
      (pss_cons (ps_if (pt_cmpR op_eq (pv 2) pe_int (nomark _))
        (pss_one (ps_ret (pe_slice sl_list (pv 1) po_none (po_some (pe_op op_sub pe_int (pe_call (ok_draw T) (hr.mono (by decide)) (by rfl) T.g_draw T.F_draw.kp T.b_draw .nil pass0 (pa_cons (pv 0) (pa_cons pe_int pa_nil))))))))
        pss_nil)
      (pss_one (ps_ret (pv 1))))))))))))), ?_⟩
    refine ⟨_, rfl, b, n, 10, rfl, by decide, by decide, bag, by omega, fun H1 way w0 w1 bag1 bt1 => ?_⟩
    have hp1 := bt1.keep _ _ pb hp
    refine ⟨_, rfl, _, rfl, p, _, rfl, .inl (SqL.of hp1), b, _, _, rfl, by rw [List.length_map]; omega, big (by rw [List.length_map]; omega), bag1, by omega, fun H2 d d0 d1 bag2 bt2 => ?_⟩
    have hp2 := bt2.keep _ _ pb hp1
    obtain ⟨k, rfl⟩ : ∃ k : Nat, d = (k : Int) := ⟨d.toNat, by omega⟩
    rw [List.length_map] at d1
    have kl : k < ts.length := by omega
    refine ⟨_, rfl, _, rfl, p, ts.map V.str, _, V.str ts[k], rfl, rfl, SqL.of hp2, at_of (j := k) rfl (by rw [List.getElem?_map, List.getElem?_eq_getElem kl]; rfl), ?_⟩
    have lr := small ts[k] (List.getElem_mem kl)
    generalize ts[k] = row at *
    refine ⟨_, rfl, _, rfl, _, rfl, small_len (by omega), _, _, rfl, rfl, b, _, _, rfl, by omega, Int.lt_of_le_of_lt (show ((row.length : Nat) : Int) + 1 ≤ 1001 by omega) (by decide), bag2, by omega, fun H3 e e0 e1 bag3 bt3 => ?_⟩
    have hp3 := bt3.keep _ _ pb hp2
    obtain ⟨j, rfl⟩ : ∃ j : Nat, e = (j : Int) := ⟨e.toNat, by omega⟩
    clear bt1 bt2 bt3 bag bag1 bag2 hp hp1 hp2
    have cost : ∀ {us : List Str}, us.length ≤ 6 → us.length ≤ sizeLine := fun h => small_len (by omega)
    refine ⟨_, rfl, rfl, _, rfl, ite2 (fun c => ?_) (fun _ => ?_)⟩
    · skip
      refine ⟨_, rfl, _, rfl, _, rfl, p, _, rfl, SqL.of hp3, fun q1 hq1 => ?_⟩
      rw [cutV_to]
      have s1 := same_new (o := .lst ((ts.take k).map V.str)) hq1
      have h1 : upd H3 q1 (.lst ((ts.take k).map V.str)) q1 = some (.lst ((ts.take k).map V.str)) := upd_same
      have hp4 := s1 _ _ hp3
      generalize upd H3 q1 (.lst ((ts.take k).map V.str)) = A1 at *
      have c1 := cutS_len row none (some (j : Int))
      have c2 := cutS_len row (some (j : Int)) none
      have sp1 : (" " : Str).length = 1 := by decide +kernel
      have la : (cutS row none (some (j : Int)) ++ " ").length ≤ 1001 := by rw [str_len, sp1]; omega
      refine ⟨_, rfl, _, rfl, _, rfl, _, rfl, small_len (by omega), _, _, rfl, rfl, small_len (by omega), _, rfl, _, rfl, _, rfl, _, rfl, small_len (by omega), _, _, rfl, rfl, small_len (by omega), by show 1 ≤ sizeLine; decide, fun q2 hq2 => ?_⟩
      have lu : (cutS row none (some (j : Int)) ++ " " ++ cutS row (some (j : Int)) none).length ≤ 3000 := by rw [str_len]; omega
      generalize cutS row none (some (j : Int)) ++ " " ++ cutS row (some (j : Int)) none = u at *
      have s2 := same_new (o := .lst [V.str u]) hq2
      have h2 : upd A1 q2 (.lst [V.str u]) q2 = some (.lst [V.str u]) := upd_same
      have h1 := s2 _ _ h1
      have hp5 := s2 _ _ hp4
      generalize upd A1 q2 (.lst [V.str u]) = A2 at *
      refine ⟨q1, q2, _, _, rfl, rfl, h1, h2, small_len (by rw [List.length_map, List.length_take]; simp; omega), fun q3 hq3 => ?_⟩
      have s3 := same_new (o := .lst ((ts.take k).map V.str ++ [V.str u])) hq3
      have h3 : upd A2 q3 (.lst ((ts.take k).map V.str ++ [V.str u])) q3 = some (.lst ((ts.take k).map V.str ++ [V.str u])) := upd_same
      have hp6 := s3 _ _ hp5
      generalize upd A2 q3 (.lst ((ts.take k).map V.str ++ [V.str u])) = A3 at *
      refine ⟨_, rfl, _, rfl, _, _, rfl, rfl, _, rfl, p, _, rfl, SqL.of hp6, fun q4 hq4 => ?_⟩
      rw [show ((k : Int) + 1) = ((k + 1 : Nat) : Int) by omega, cutV_from]
      have s4 := same_new (o := .lst ((ts.drop (k + 1)).map V.str)) hq4
      have h4 : upd A3 q4 (.lst ((ts.drop (k + 1)).map V.str)) q4 = some (.lst ((ts.drop (k + 1)).map V.str)) := upd_same
      have h3 := s4 _ _ h3
      generalize upd A3 q4 (.lst ((ts.drop (k + 1)).map V.str)) = A4 at *
      refine ⟨q3, q4, _, _, rfl, rfl, h3, h4, small_len (by rw [List.length_append, List.length_map, List.length_map, List.length_take, List.length_drop]; simp; omega), fun q5 hq5 => ?_⟩
      refine kk _ q5 (ts.take k ++ [u] ++ ts.drop (k + 1)) (by rw [upd_same, List.map_append, List.map_append]; rfl) (by rw [List.length_append, List.length_append, List.length_take, List.length_drop]; simp; omega) (three_small small lu)
    refine ⟨_, rfl, rfl, _, rfl, ite2 (fun c => ?_) (fun _ => ?_)⟩
    · skip
      refine ⟨_, rfl, _, rfl, _, rfl, p, _, rfl, SqL.of hp3, fun q1 hq1 => ?_⟩
      rw [cutV_to]
      have s1 := same_new (o := .lst ((ts.take k).map V.str)) hq1
      have h1 : upd H3 q1 (.lst ((ts.take k).map V.str)) q1 = some (.lst ((ts.take k).map V.str)) := upd_same
      have hp4 := s1 _ _ hp3
      generalize upd H3 q1 (.lst ((ts.take k).map V.str)) = A1 at *
      have rl := TK.replace_len row ", " ","
      have cm : ("," : Str).length = 1 := by decide +kernel
      rw [cm] at rl
      refine ⟨_, rfl, _, rfl, by rw [cm]; omega, by show 1 ≤ sizeLine; decide, fun q2 hq2 => ?_⟩
      have lu : (Txt.replace row ", " ",").length ≤ 3000 := by omega
      generalize Txt.replace row ", " "," = u at *
      have s2 := same_new (o := .lst [V.str u]) hq2
      have h2 : upd A1 q2 (.lst [V.str u]) q2 = some (.lst [V.str u]) := upd_same
      have h1 := s2 _ _ h1
      have hp5 := s2 _ _ hp4
      generalize upd A1 q2 (.lst [V.str u]) = A2 at *
      refine ⟨q1, q2, _, _, rfl, rfl, h1, h2, small_len (by rw [List.length_map, List.length_take]; simp; omega), fun q3 hq3 => ?_⟩
      have s3 := same_new (o := .lst ((ts.take k).map V.str ++ [V.str u])) hq3
      have h3 : upd A2 q3 (.lst ((ts.take k).map V.str ++ [V.str u])) q3 = some (.lst ((ts.take k).map V.str ++ [V.str u])) := upd_same
      have hp6 := s3 _ _ hp5
      generalize upd A2 q3 (.lst ((ts.take k).map V.str ++ [V.str u])) = A3 at *
      refine ⟨_, rfl, _, rfl, _, _, rfl, rfl, _, rfl, p, _, rfl, SqL.of hp6, fun q4 hq4 => ?_⟩
      rw [show ((k : Int) + 1) = ((k + 1 : Nat) : Int) by omega, cutV_from]
      have s4 := same_new (o := .lst ((ts.drop (k + 1)).map V.str)) hq4
      have h4 : upd A3 q4 (.lst ((ts.drop (k + 1)).map V.str)) q4 = some (.lst ((ts.drop (k + 1)).map V.str)) := upd_same
      have h3 := s4 _ _ h3
      generalize upd A3 q4 (.lst ((ts.drop (k + 1)).map V.str)) = A4 at *
      refine ⟨q3, q4, _, _, rfl, rfl, h3, h4, small_len (by rw [List.length_append, List.length_map, List.length_map, List.length_take, List.length_drop]; simp; omega), fun q5 hq5 => ?_⟩
      refine kk _ q5 (ts.take k ++ [u] ++ ts.drop (k + 1)) (by rw [upd_same, List.map_append, List.map_append]; rfl) (by rw [List.length_append, List.length_append, List.length_take, List.length_drop]; simp; omega) (three_small small lu)
    refine ⟨_, rfl, rfl, _, rfl, ite2 (fun c => ?_) (fun _ => ?_)⟩
    · skip
      refine ⟨_, rfl, _, rfl, _, rfl, p, _, rfl, SqL.of hp3, fun q1 hq1 => ?_⟩
      rw [cutV_to]
      have s1 := same_new (o := .lst ((ts.take k).map V.str)) hq1
      have h1 : upd H3 q1 (.lst ((ts.take k).map V.str)) q1 = some (.lst ((ts.take k).map V.str)) := upd_same
      have hp4 := s1 _ _ hp3
      generalize upd H3 q1 (.lst ((ts.take k).map V.str)) = A1 at *
      refine ⟨by show 1 ≤ sizeLine; decide, fun q2 hq2 => ?_⟩
      have lu : ("" : Str).length ≤ 3000 := by decide +kernel
      generalize ("" : Str) = u at *
      have s2 := same_new (o := .lst [V.str u]) hq2
      have h2 : upd A1 q2 (.lst [V.str u]) q2 = some (.lst [V.str u]) := upd_same
      have h1 := s2 _ _ h1
      have hp5 := s2 _ _ hp4
      generalize upd A1 q2 (.lst [V.str u]) = A2 at *
      refine ⟨q1, q2, _, _, rfl, rfl, h1, h2, small_len (by rw [List.length_map, List.length_take]; simp; omega), fun q3 hq3 => ?_⟩
      have s3 := same_new (o := .lst ((ts.take k).map V.str ++ [V.str u])) hq3
      have h3 : upd A2 q3 (.lst ((ts.take k).map V.str ++ [V.str u])) q3 = some (.lst ((ts.take k).map V.str ++ [V.str u])) := upd_same
      have hp6 := s3 _ _ hp5
      generalize upd A2 q3 (.lst ((ts.take k).map V.str ++ [V.str u])) = A3 at *
      refine ⟨_, rfl, _, rfl, _, rfl, p, _, rfl, SqL.of hp6, fun q4 hq4 => ?_⟩
      rw [cutV_from]
      have s4 := same_new (o := .lst ((ts.drop k).map V.str)) hq4
      have h4 : upd A3 q4 (.lst ((ts.drop k).map V.str)) q4 = some (.lst ((ts.drop k).map V.str)) := upd_same
      have h3 := s4 _ _ h3
      generalize upd A3 q4 (.lst ((ts.drop k).map V.str)) = A4 at *
      refine ⟨q3, q4, _, _, rfl, rfl, h3, h4, small_len (by rw [List.length_append, List.length_map, List.length_map, List.length_take, List.length_drop]; simp; omega), fun q5 hq5 => ?_⟩
      refine kk _ q5 (ts.take k ++ [u] ++ ts.drop k) (by rw [upd_same, List.map_append, List.map_append]; rfl) (by rw [List.length_append, List.length_append, List.length_take, List.length_drop]; simp; omega) (three_small small lu)
    refine ⟨_, rfl, rfl, _, rfl, ite2 (fun c => ?_) (fun _ => ?_)⟩
    · skip
      refine ⟨_, rfl, by show 5 ≤ sizeLine; decide, fun u0 hu => ?_⟩
      have su := same_new (o := .lst [V.str "", V.str "loop ", V.str "loop", V.str "loop 1", V.str "loop 1 shy, "]) hu
      have ub := Lm.bag_off bag3 hu
      have hu1 : upd H3 u0 (.lst [V.str "", V.str "loop ", V.str "loop", V.str "loop 1", V.str "loop 1 shy, "]) u0 = some (.lst ((["", "loop ", "loop", "loop 1", "loop 1 shy, "] : List Str).map V.str)) := upd_same
      have hp4 := su _ _ hp3
      have bg1 := bag3.keep su
      generalize upd H3 u0 (.lst [V.str "", V.str "loop ", V.str "loop", V.str "loop 1", V.str "loop 1 shy, "]) = A1 at *
      refine ⟨_, rfl, b, _, 5, rfl, by decide, by decide, bg1, by omega, fun A2 f f0 f1 bg2 bt6 => ?_⟩
      have hu2 := bt6.keep _ _ ub hu1
      have hp5 := bt6.keep _ _ pb hp4
      obtain ⟨u, ex, mt⟩ := drawnT (ts := ["", "loop ", "loop", "loop 1", "loop 1 shy, "]) f0 (by simpa using f1)
      have lu : u.length ≤ 3000 := by
        have all : ∀ t ∈ (["", "loop ", "loop", "loop 1", "loop 1 shy, "] : List Str), t.length ≤ 3000 := by decide +kernel
        exact all u mt
      refine ⟨u0, _, _, _, rfl, rfl, SqL.of hu2, ex, by show 1 ≤ sizeLine; decide, fun q2 hq2 => ?_⟩
      have s2 := same_new (o := .lst [V.str u]) hq2
      have h2 : upd A2 q2 (.lst [V.str u]) q2 = some (.lst [V.str u]) := upd_same
      have hp6 := s2 _ _ hp5
      generalize upd A2 q2 (.lst [V.str u]) = A3 at *
      refine ⟨p, q2, _, _, rfl, rfl, hp6, h2, small_len (by rw [List.length_map]; simp; omega), fun q5 hq5 => ?_⟩
      refine kk _ q5 (ts ++ [u]) (by rw [upd_same, List.map_append]; rfl) (by rw [List.length_append]; simp; omega) fun t m => ?_
      rcases List.mem_append.mp m with m | m
      · exact Nat.le_trans (small t m) (by decide)
      · rw [List.mem_singleton.mp m]
        exact lu
    refine ⟨_, rfl, rfl, _, rfl, ite2 (fun c => ?_) (fun _ => ?_)⟩
    · skip
      refine ⟨_, rfl, _, rfl, _, rfl, p, _, rfl, SqL.of hp3, fun q1 hq1 => ?_⟩
      rw [cutV_to]
      have s1 := same_new (o := .lst ((ts.take k).map V.str)) hq1
      have h1 : upd H3 q1 (.lst ((ts.take k).map V.str)) q1 = some (.lst ((ts.take k).map V.str)) := upd_same
      have hp4 := s1 _ _ hp3
      generalize upd H3 q1 (.lst ((ts.take k).map V.str)) = A1 at *
      have c1 := cutS_len row none (some (j : Int))
      refine ⟨_, rfl, _, rfl, _, rfl, _, rfl, small_len (by omega), by show 1 ≤ sizeLine; decide, fun q2 hq2 => ?_⟩
      have lu : (cutS row none (some (j : Int))).length ≤ 3000 := by omega
      generalize cutS row none (some (j : Int)) = u at *
      have s2 := same_new (o := .lst [V.str u]) hq2
      have h2 : upd A1 q2 (.lst [V.str u]) q2 = some (.lst [V.str u]) := upd_same
      have h1 := s2 _ _ h1
      have hp5 := s2 _ _ hp4
      generalize upd A1 q2 (.lst [V.str u]) = A2 at *
      refine ⟨q1, q2, _, _, rfl, rfl, h1, h2, small_len (by rw [List.length_map, List.length_take]; simp; omega), fun q3 hq3 => ?_⟩
      have s3 := same_new (o := .lst ((ts.take k).map V.str ++ [V.str u])) hq3
      have h3 : upd A2 q3 (.lst ((ts.take k).map V.str ++ [V.str u])) q3 = some (.lst ((ts.take k).map V.str ++ [V.str u])) := upd_same
      have hp6 := s3 _ _ hp5
      generalize upd A2 q3 (.lst ((ts.take k).map V.str ++ [V.str u])) = A3 at *
      refine ⟨_, rfl, _, rfl, _, _, rfl, rfl, _, rfl, p, _, rfl, SqL.of hp6, fun q4 hq4 => ?_⟩
      rw [show ((k : Int) + 1) = ((k + 1 : Nat) : Int) by omega, cutV_from]
      have s4 := same_new (o := .lst ((ts.drop (k + 1)).map V.str)) hq4
      have h4 : upd A3 q4 (.lst ((ts.drop (k + 1)).map V.str)) q4 = some (.lst ((ts.drop (k + 1)).map V.str)) := upd_same
      have h3 := s4 _ _ h3
      generalize upd A3 q4 (.lst ((ts.drop (k + 1)).map V.str)) = A4 at *
      refine ⟨q3, q4, _, _, rfl, rfl, h3, h4, small_len (by rw [List.length_append, List.length_map, List.length_map, List.length_take, List.length_drop]; simp; omega), fun q5 hq5 => ?_⟩
      refine kk _ q5 (ts.take k ++ [u] ++ ts.drop (k + 1)) (by rw [upd_same, List.map_append, List.map_append]; rfl) (by rw [List.length_append, List.length_append, List.length_take, List.length_drop]; simp; omega) (three_small small lu)
    refine ⟨_, rfl, rfl, _, rfl, ite2 (fun c => ?_) (fun _ => ?_)⟩
    · skip
      refine ⟨_, rfl, _, rfl, b, _, 2, rfl, by decide, by decide, bag3, by omega, fun A2 f f0 f1 bg2 bt6 => ?_⟩
      have hp4 := bt6.keep _ _ pb hp3
      obtain ⟨z, ez⟩ : ∃ z : Nat, (1 : Int) - f = (z : Int) := ⟨(1 - f).toNat, by omega⟩
      refine ⟨_, _, rfl, rfl, (z : Int), by rw [← ez], p, _, rfl, SqL.of hp4, fun q5 hq5 => ?_⟩
      rw [cutV_to]
      refine kk _ q5 (ts.take z) upd_same (by rw [List.length_take]; omega) fun t m => Nat.le_trans (small t (List.mem_of_mem_take m)) (by decide)
    exact ⟨_, rfl, kk _ p ts hp3 (by omega) fun t m => Nat.le_trans (small t m) (by decide)⟩
end
end K10

namespace K10
open PySem L2 Wm TL Dv De
section
variable {P : Program} {w : World} {K : PySem.W.Frag} {mg : Str → Option Value} {base : Heap}
def tooP (ls : List (List Bx)) (k : Nat) : Bool := decide (10 < (ls.getD k []).length) || decide (k = 3)
theorem filt_first {P : Nat → Bool} : ∀ {n h : Nat} {r : List Nat}, (List.range n).filter P = h :: r → P h = true ∧ h < n ∧ ∀ j, j < h → P j = false
  | n, h, r, e => by
    have mem : h ∈ (List.range n).filter P := by rw [e]; exact List.mem_cons_self
    obtain ⟨m1, m2⟩ := List.mem_filter.mp mem
    refine ⟨m2, List.mem_range.mp m1, fun j lt => ?_⟩
    cases pj : P j with
    | false => rfl
    | true =>
      have mj : j ∈ (List.range n).filter P := List.mem_filter.mpr ⟨List.mem_range.mpr (Nat.lt_trans lt (List.mem_range.mp m1)), pj⟩
      have srt : ((List.range n).filter P).Pairwise (· < ·) := List.Pairwise.filter _ List.pairwise_lt_range
      rw [e] at mj srt
      rcases List.mem_cons.mp mj with z | z
      · omega
      · have := (List.pairwise_cons.mp srt).1 j z
        omega
theorem first_at {n h : Nat} {q : Nat → Bool} (lt : h < n) (y : q h = true) (no : ∀ j, j < h → q j = false) : firstI ((List.range n).map q) = (h : Int) + 1 := by
  unfold firstI
  rw [first_hit (i := h) (by rw [List.getElem?_map, List.getElem?_range lt]; exact congrArg some y) fun b m => ?_]
  obtain ⟨j, hj⟩ := List.mem_iff_getElem?.mp m
  rw [List.getElem?_take] at hj
  by_cases c : j < h
  · rw [if_pos c, List.getElem?_map, List.getElem?_range (by omega)] at hj
    have := Option.some.inj hj
    rw [← this]
    exact no j c
  · rw [if_neg c] at hj
    cases hj
theorem loops_bad {ls : List (List Bx)} {h : Nat} {r : List Nat} (e : (List.range ls.length).filter (tooP ls) = h :: r) : loopsOk ls = false ∧ wrongI ("loops" : Str) ls = (h : Int) + 1 := by
  obtain ⟨y, lt, no⟩ := filt_first e
  constructor
  · cases c : loopsOk ls with
    | false => rfl
    | true =>
      obtain ⟨b1, b2⟩ := loops_bnd c
      unfold tooP at y
      rw [Bool.or_eq_true] at y
      rcases y with y | y
      · have y := of_decide_eq_true y
        have g : ls.getD h [] = ls[h] := by simp [lt]
        rw [g] at y
        have := b2 _ (List.getElem_mem lt)
        omega
      · have := of_decide_eq_true y
        omega
  · have ew : wrongI ("loops" : Str) ls = firstI ((List.range ls.length).map fun i => decide (10 < (ls.getD i []).length) || decide (3 ≤ i)) := by
      unfold wrongI
      rw [if_neg (by decide +kernel), if_pos rfl]
    rw [ew]
    have h3 : h ≤ 3 := by
      by_cases c : 3 < h
      · have z := no 3 c
        unfold tooP at z
        simp at z
      · omega
    refine first_at lt ?_ fun j lj => ?_
    · unfold tooP at y
      rw [Bool.or_eq_true] at y ⊢
      exact y.imp id fun z => decide_eq_true (by have := of_decide_eq_true z; omega)
    · have z := no j lj
      unfold tooP at z
      rw [Bool.or_eq_false_iff] at z ⊢
      exact ⟨z.1, decide_eq_false (by omega)⟩
theorem loops_good {ls : List (List Bx)} (ne : ls ≠ []) (l1 : ∀ l ∈ ls, 1 ≤ l.length) (e : (List.range ls.length).filter (tooP ls) = []) : loopsOk ls = true := by
  have no : ∀ k, k < ls.length → tooP ls k = false := fun k lt => by
    cases c : tooP ls k with
    | false => rfl
    | true =>
      have m : k ∈ (List.range ls.length).filter (tooP ls) := List.mem_filter.mpr ⟨List.mem_range.mpr lt, c⟩
      rw [e] at m
      cases m
  have len : ls.length ≤ 3 := by
    by_cases c : 3 < ls.length
    · have z := no 3 c
      unfold tooP at z
      simp at z
    · omega
  unfold loopsOk
  rw [decide_eq_true (show 1 ≤ ls.length from List.length_pos_iff.mpr ne), decide_eq_true len]
  refine List.all_eq_true.mpr fun l m => ?_
  obtain ⟨k, hk⟩ := List.mem_iff_getElem?.mp m
  have lt := (List.getElem?_eq_some_iff.mp hk).1
  have z := no k lt
  unfold tooP at z
  rw [Bool.or_eq_false_iff] at z
  have z1 := of_decide_eq_false z.1
  have g : ls.getD k [] = l := by rw [List.getD_eq_getElem?_getD, hk]; rfl
  rw [g] at z1
  rw [decide_eq_true (l1 l m), decide_eq_true (show l.length ≤ 10 by omega)]
  rfl
theorem flat_all {ls : List (List Bx)} {f : Bx → Bool} : ls.flatten.all f = true ↔ ∀ (k : Nat) l, ls[k]? = some l → l.all f = true := by
  rw [List.all_eq_true]
  constructor
  · intro h k l hl
    exact List.all_eq_true.mpr fun b m => h b (List.mem_flatten.mpr ⟨l, List.mem_of_getElem? hl, m⟩)
  · intro h b m
    obtain ⟨l, ml, mb⟩ := List.mem_flatten.mp m
    obtain ⟨k, hk⟩ := List.mem_iff_getElem?.mp ml
    exact List.all_eq_true.mp (h k l hk) b mb
theorem first_map {ls : List (List Bx)} {f : Bx → Bool} {k : Nat} {l : List Bx} (hl : ls[k]? = some l) (bad : l.all f = false) (no : ∀ j l, j < k → ls[j]? = some l → l.all f = true) : firstI (ls.map fun l => !(l.all f)) = (k : Int) + 1 := by
  unfold firstI
  rw [first_hit (i := k) (by rw [List.getElem?_map, hl]; show some (!l.all f) = some true; rw [bad]; rfl) fun b m => ?_]
  obtain ⟨j, hj⟩ := List.mem_iff_getElem?.mp m
  rw [List.getElem?_take] at hj
  by_cases c : j < k
  · rw [if_pos c, List.getElem?_map] at hj
    obtain ⟨l', hl', e⟩ := Option.map_eq_some_iff.mp hj
    rw [← e, no j l' c hl']
    rfl
  · rw [if_neg c] at hj
    cases hj
theorem num_bad {ls : List (List Bx)} {k : Nat} {l : List Bx} (ok : loopsOk ls = true) (hl : ls[k]? = some l) (bad : l.all (fun b => numOk b.1) = false) (no : ∀ j l, j < k → ls[j]? = some l → l.all (fun b => numOk b.1) = true) : loopW ls = some ("number" : Str) ∧ wrongI ("number" : Str) ls = (k : Int) + 1 := by
  have fa : ls.flatten.all (fun b => numOk b.1) = false := Bool.eq_false_iff.mpr fun z => by
    rw [flat_all.mp z k l hl] at bad
    cases bad
  constructor
  · unfold loopW boxW
    rw [if_neg (by rw [ok]; decide), if_pos fa]
  · unfold wrongI
    rw [if_neg (by decide +kernel), if_neg (by decide +kernel), if_pos rfl]
    exact first_map hl bad no
theorem sort_bad {ls : List (List Bx)} {k : Nat} {l : List Bx} (ok : loopsOk ls = true) (nums : ls.flatten.all (fun b => numOk b.1) = true) (hl : ls[k]? = some l) (bad : l.all (fun b => sortOk b.2) = false) (no : ∀ j l, j < k → ls[j]? = some l → l.all (fun b => sortOk b.2) = true) : loopW ls = some ("sort" : Str) ∧ wrongI ("sort" : Str) ls = (k : Int) + 1 := by
  have fa : ls.flatten.all (fun b => sortOk b.2) = false := Bool.eq_false_iff.mpr fun z => by
    rw [flat_all.mp z k l hl] at bad
    cases bad
  constructor
  · unfold loopW boxW
    rw [if_neg (by rw [ok]; decide), if_neg (by rw [nums]; decide), if_pos fa]
  · unfold wrongI
    rw [if_neg (by decide +kernel), if_neg (by decide +kernel), if_neg (by decide +kernel), if_pos rfl]
    exact first_map hl bad no
theorem flat_sub (ls : List (List Bx)) (n : Nat) : ((ls.take n).flatten).Sublist ls.flatten := by
  have e : ls.flatten = (ls.take n).flatten ++ (ls.drop n).flatten := by rw [← List.flatten_append, List.take_append_drop]
  rw [e]
  exact List.sublist_append_left _ _
theorem dbl_bad {ls : List (List Bx)} {k j : Nat} {l : List Bx} {b : Bx} (ok : loopsOk ls = true) (nums : ls.flatten.all (fun b => numOk b.1) = true) (sorts : ls.flatten.all (fun b => sortOk b.2) = true) (hl : ls[k]? = some l) (hb : l[j]? = some b)
    (nd : (((ls.take k).flatten ++ l.take j).map Prod.fst).Nodup) (m : b.1 ∈ ((ls.take k).flatten ++ l.take j).map Prod.fst) : loopW ls = some ("double" : Str) ∧ wrongI ("double" : Str) ls = (k : Int) + 1 := by
  have lt := (List.getElem?_eq_some_iff.mp hl).1
  have here : ¬ (((ls.take k).flatten ++ l.take (j + 1)).map Prod.fst).Nodup := fun z => by
    rw [List.take_add_one, hb, ← List.append_assoc, List.map_append] at z
    exact (List.nodup_append.mp z).2.2 _ m _ (by simp) rfl
  have hk : dbl (ls.take (k + 1)).flatten = true := by
    unfold dbl
    rw [decide_eq_false fun z => here ?_]
    · rfl
    · rw [flat_succ hl] at z
      refine z.sublist (List.Sublist.map _ (List.Sublist.append (List.Sublist.refl _) (List.take_sublist _ _)))
  have hall : dbl ls.flatten = true := by
    unfold dbl at hk ⊢
    rw [decide_eq_false fun z => ?_]
    · rfl
    · have q : ((ls.take (k + 1)).flatten.map Prod.fst).Nodup := z.sublist (List.Sublist.map _ (flat_sub _ _))
      rw [decide_eq_true q] at hk
      cases hk
  constructor
  · unfold loopW boxW
    rw [if_neg (by rw [ok]; decide), if_neg (by rw [nums]; decide), if_neg (by rw [sorts]; decide), if_pos hall]
  · unfold wrongI
    rw [if_neg (by decide +kernel), if_neg (by decide +kernel), if_neg (by decide +kernel), if_neg (by decide +kernel)]
    refine first_at lt hk fun i li => ?_
    unfold dbl
    have q : ((ls.take (i + 1)).flatten.map Prod.fst).Nodup := by
      have sub : ((ls.take (i + 1)).flatten).Sublist (ls.take k).flatten := by
        have e : ls.take (i + 1) = (ls.take k).take (i + 1) := by rw [List.take_take, Nat.min_eq_left (by omega)]
        rw [e]
        exact flat_sub _ _
      refine nd.sublist (List.Sublist.map _ (sub.trans (List.sublist_append_left _ _)))
    rw [decide_eq_true q]
    rfl
theorem all_good {ls : List (List Bx)} (ok : loopsOk ls = true) (nums : ls.flatten.all (fun b => numOk b.1) = true) (sorts : ls.flatten.all (fun b => sortOk b.2) = true) (nd : (ls.flatten.map Prod.fst).Nodup) : loopW ls = none := by
  unfold loopW boxW dbl
  rw [if_neg (by rw [ok]; decide), if_neg (by rw [nums]; decide), if_neg (by rw [sorts]; decide), if_neg]
  rw [decide_eq_true nd]
  decide
theorem take_all {l : List Bx} {i : Nat} {b : Bx} (h : l[i]? = some b) (f : Bx → Bool) : (l.take (i + 1)).all f = ((l.take i).all f && f b) := by
  rw [List.take_add_one, h, List.all_append]
  simp
theorem emp_snoc (ys : List V) (y : V) (c : Bool) : (ys ++ [y]).isEmpty = (c && false) := by
  rw [Bool.and_false]
  cases ys <;> rfl
theorem ok_first (T : Txt K mg) : FnOk P w K mg base CX0 2 T.a_first T.d_first ["_law_loops_here"] (sp_first K) := by
  refine T.F_first.ok sc_first (fun vs H Q E h => ?_) (fun cdv A outer s H vs Q E hr h => ?_)
  · obtain ⟨p, ls, rfl, _⟩ := h
    rfl
  · obtain ⟨p, ls, rfl, hL, hz, l1, kk, kw⟩ := h
    obtain ⟨xs, hp, el, ha⟩ := id hL
    obtain ⟨z1, z2, z3⟩ := id hz
    refine ⟨_, (pss_cons (ps_setLc (i := 1) (own := [("_law_k", 2)]) (g := gName 2) rfl sc_first.nd rfl rfl (sw_true rfl rfl rfl (by decide +kernel)) (pi_range1 (by rfl) T.z_range (pa_cons (pe_callB call_len_seq (by rfl) T.z_len PySem.boot_len (pa_cons (pv 0) pa_nil)) pa_nil)) (blkOk_by (own := [("_law_k", 2)]) (N := nm_first) (sc := (defScope s_first)) (by decide +kernel)) (fun _ _ _ _ _ => pg_name (i := 2) sc_first.nd rfl (Or.inl rfl)) (fun _ _ _ _ _ => (pts_one (PW.pt (pw_or (pt_cmpR op_gt (pe_callB (show CallR _ _ (Kx.rLen K) from call_len_seq) (by rfl) T.z_len PySem.boot_len (pa_cons (pe_ix (show IxR _ (rIxL K) from ix_list) (pv 0) (pv 2) (fun _ _ => rfl)) pa_nil)) pe_int (nomark _)) (pw_or1 (pt_cmpR op_eq (pv 2) pe_int (nomark _))))))) (fun _ _ _ _ _ => (pv 2)))
      (pss_cons (ps_if (pt_cmpR (show OpR _ _ (De.rEqNil K) from De.op_eqNil (Ind.room65 hr)) (pv 0) (pe_lst pa_nil) (nomark _))
        (pss_one (ps_ret (pe_tup (pa_cons pe_int (pa_cons pe_str pa_nil)))))
        pss_nil)
      (pss_cons (ps_if (pt_cmpR (show OpR _ _ (De.rNeNil K) from De.op_neNil (Ind.room65 hr)) (pv 1) (pe_lst pa_nil) (nomark _))
        (pss_one (ps_ret (pe_tup (pa_cons (pe_op op_add (pe_ix ix_list (pv 1) pe_int (fun _ _ => rfl)) pe_int) (pa_cons pe_str pa_nil)))))
        pss_nil)
      (pss_cons (ps_for PassesOwn.never rfl (pi_range1 (by rfl) T.z_range (pa_cons (pe_callB call_len_seq (by rfl) T.z_len PySem.boot_len (pa_cons (pv 0) pa_nil)) pa_nil)) (pg_name (i := 2) sc_first.nd rfl (Or.inl rfl))
        (pss_one (ps_if (pt_cmpR (show OpR _ _ (De.rNeNil K) from De.op_neNil (Ind.room65 hr)) (pe_lc (own := [("_law_box", 3)]) (g := gName 3) rfl sc_first.nd (pi_list (pe_ix ix_list (pv 0) (pv 2) (fun _ _ => rfl))) (blkOk_by (own := [("_law_box", 3)]) (N := nm_first) (sc := (defScope s_first)) (by decide +kernel)) (fun _ _ _ _ _ => pg_name (i := 3) sc_first.nd rfl (Or.inl rfl)) (fun _ _ _ _ _ => (pts_one (pt_not (pt_val (pe_call (ok_lis_number T) (hr.mono (by decide)) (by rfl) T.g_lis_number T.F_lis_number.kp T.b_lis_number .nil pass0 (pa_cons (pe_ix (show IxR _ (rIxT K) from ix_tup) (pv 3) pe_int (fun _ _ => rfl)) pa_nil)))))) (fun _ _ _ _ _ => (pv 3))) (pe_lst pa_nil) (nomark _))
          (pss_one (ps_ret (pe_tup (pa_cons (pe_op op_add (pv 2) pe_int) (pa_cons pe_str pa_nil)))))
          pss_nil)))
      (pss_cons (ps_for PassesOwn.never rfl (pi_range1 (by rfl) T.z_range (pa_cons (pe_callB call_len_seq (by rfl) T.z_len PySem.boot_len (pa_cons (pv 0) pa_nil)) pa_nil)) (pg_name (i := 2) sc_first.nd rfl (Or.inl rfl))
        (pss_one (ps_if (pt_cmpR (show OpR _ _ (De.rNeNil K) from De.op_neNil (Ind.room65 hr)) (pe_lc (own := [("_law_box", 3)]) (g := gName 3) rfl sc_first.nd (pi_list (pe_ix ix_list (pv 0) (pv 2) (fun _ _ => rfl))) (blkOk_by (own := [("_law_box", 3)]) (N := nm_first) (sc := (defScope s_first)) (by decide +kernel)) (fun _ _ _ _ _ => pg_name (i := 3) sc_first.nd rfl (Or.inl rfl)) (fun _ _ _ _ _ => (pts_one (pt_cmpR (show OpR _ _ (rIn K true) from op_notIn_seq) (pe_ix (show IxR _ (rIxT K) from ix_tup) (pv 3) pe_int (fun _ _ => rfl)) (pe_tup (pa_cons pe_str (pa_cons pe_str pa_nil))) rfl))) (fun _ _ _ _ _ => (pv 3))) (pe_lst pa_nil) (nomark _))
          (pss_one (ps_ret (pe_tup (pa_cons (pe_op op_add (pv 2) pe_int) (pa_cons pe_str pa_nil)))))
          pss_nil)))
      (pss_cons (ps_set (i := 4) sc_first.nd rfl (Or.inl rfl) (pe_lst pa_nil))
      (pss_cons (ps_for PassesOwn.never rfl (pi_range1 (by rfl) T.z_range (pa_cons (pe_callB call_len_seq (by rfl) T.z_len PySem.boot_len (pa_cons (pv 0) pa_nil)) pa_nil)) (pg_name (i := 2) sc_first.nd rfl (Or.inl rfl))
        (pss_one (ps_for PassesOwn.never rfl (pi_list (pe_ix ix_list (pv 0) (pv 2) (fun _ _ => rfl))) (pg_name (i := 3) sc_first.nd rfl (Or.inl rfl))
          (pss_cons (ps_if (pt_cmpR op_in_seq (pe_ix ix_tup (pv 3) pe_int (fun _ _ => rfl)) (pv 4) rfl)
            (pss_one (ps_ret (pe_tup (pa_cons (pe_op op_add (pv 2) pe_int) (pa_cons pe_str pa_nil)))))
            pss_nil)
          (pss_one (ps_expr (pe_bm PySem.F.plainAttrs_list PySem.F.slot_list_append PySem.F.type_list_append mt_append (pv 4) (pa_cons (pe_ix ix_tup (pv 3) pe_int (fun _ _ => rfl)) pa_nil))))))))
      (pss_one (ps_ret pe_non))))))))), ?_⟩
    refine ⟨_, rfl, p, _, rfl, .inl (SqL.of hp), ?_⟩
    refine ⟨_, rfl, by omega, by omega, ?_⟩
    rw [Int.toNat_natCast]
    intro D hD
    refine lc_it walk_range (fun i H' => Same H H' ∧ H' D = some (.lst (((List.range i).filter (tooP ls)).map fun (k : Nat) => V.int k))) ⟨same_new hD, upd_same⟩ (fun _ _ _ _ => trivial) (fun i x H3 H' hi hP hY => ?_) (fun H3 hP => ?_)
    · obtain ⟨sm, hy⟩ := hP
      obtain ⟨rfl, rfl⟩ := hY
      refine ⟨rfl, ?_⟩
      obtain ⟨v, hv⟩ : ∃ v, xs[i]? = some v := ⟨_, List.getElem?_eq_getElem (by omega)⟩
      obtain ⟨l, q1, zs, hl, rfl, hq, lz, hz'⟩ := lps_at ha hv
      have lq : ((List.range i).filter (tooP ls)).length ≤ i := Nat.le_trans (List.length_filter_le _ _) (by rw [List.length_range]; exact Nat.le_refl _)
      have hfin : tooP ls i = (decide (10 < zs.length) || decide (i = 3)) := by
        unfold tooP
        rw [show ls.getD i [] = l by simp [hl], lz]
      have good : tooP ls i = true → ∃ acc, H' D = some (HO.lst acc) ∧ acc.length < sizeLine ∧ Same H (upd H' D (.lst (acc ++ [V.int (0 + (i : Nat))]))) ∧ upd H' D (.lst (acc ++ [V.int (0 + (i : Nat))])) D = some (.lst (((List.range (i + 1)).filter (tooP ls)).map fun (k : Nat) => V.int k)) := fun c => by
        refine ⟨_, hy, by rw [List.length_map]; exact small_lt (by omega), same_mut sm hD, ?_⟩
        rw [upd_same, List.range_succ, List.filter_append, List.filter_cons_of_pos c, List.filter_nil, List.map_append, Int.zero_add]
        rfl
      have bad : tooP ls i = false → Same H H' ∧ H' D = some (.lst (((List.range (i + 1)).filter (tooP ls)).map fun (k : Nat) => V.int k)) := fun c => by
        refine ⟨sm, ?_⟩
        rw [hy, List.range_succ, List.filter_append, List.filter_cons_of_neg (by rw [c]; decide), List.filter_nil, List.append_nil]
      refine ⟨_, rfl, _, rfl, p, xs, _, .ref q1, rfl, rfl, SqL.of (sm _ _ hp), at_of (j := i) (by omega) hv, q1, _, rfl, .inl (SqL.of (sm _ _ hq)), _, _, rfl, rfl, _, rfl, ?_⟩
      by_cases c : 10 < zs.length
      · rw [decide_eq_true (show (10 : Int) < ((zs.length : Nat) : Int) by omega)]
        rw [decide_eq_true c, Bool.true_or] at hfin
        exact iteT (iteT ⟨_, rfl, good hfin⟩)
      rw [decide_eq_false (show ¬ (10 : Int) < ((zs.length : Nat) : Int) by omega)]
      rw [decide_eq_false c, Bool.false_or] at hfin
      refine iteF ⟨_, rfl, rfl, _, rfl, ?_⟩
      by_cases c3 : i = 3
      · rw [decide_eq_true (show V.int (0 + (i : Nat)) = V.int 3 by rw [c3]; rfl)]
        rw [decide_eq_true c3] at hfin
        exact iteT ⟨_, rfl, good hfin⟩
      · rw [decide_eq_false (fun z => c3 (by have := V.int.inj z; omega))]
        rw [decide_eq_false c3] at hfin
        exact iteF (bad hfin)
    · obtain ⟨sm, hy⟩ := hP
      rw [el] at hy
      have lq : ((List.range ls.length).filter (tooP ls)).length ≤ ls.length := Nat.le_trans (List.length_filter_le _ _) (by rw [List.length_range]; exact Nat.le_refl _)
      refine ⟨_, rfl, Nat.zero_le _, fun D2 hD2 => ?_⟩
      have s2 := same_new (o := .lst []) hD2
      have hz2 : upd H3 D2 (.lst []) D2 = some (.lst []) := upd_same
      have hy := s2 _ _ hy
      have sm := sm.trans s2
      generalize upd H3 D2 (.lst []) = H4 at *
      refine ⟨p, D2, xs, rfl, rfl, SqL.of (sm _ _ hp), SqL.of hz2, _, rfl, ?_⟩
      by_cases ne : ls = []
      · have e0 : xs = [] := List.eq_nil_of_length_eq_zero (by rw [el, ne]; rfl)
        refine iteY (by rw [e0]; rfl) ⟨by show 2 ≤ sizeLine; decide, fun q hq => kw "loops" (by unfold loopW loopsOk; rw [ne]; rfl) _ q (sm.trans (same_new hq)) ?_⟩
        rw [upd_same, ne]
        rfl
      refine iteN (by cases xs with | nil => exact absurd (List.eq_nil_of_length_eq_zero el.symm) ne | cons a b => rfl) ?_
      refine ⟨_, rfl, Nat.zero_le _, fun D3 hD3 => ?_⟩
      have s3 := same_new (o := .lst []) hD3
      have hz3 : upd H4 D3 (.lst []) D3 = some (.lst []) := upd_same
      have hy := s3 _ _ hy
      have sm := sm.trans s3
      generalize upd H4 D3 (.lst []) = H5 at *
      refine ⟨D, D3, _, rfl, rfl, SqL.of hy, SqL.of hz3, _, rfl, ?_⟩
      cases ef : (List.range ls.length).filter (tooP ls) with
      | cons h0 r0 =>
        obtain ⟨b1, b2⟩ := loops_bad ef
        refine iteT ?_
        rw [ef] at hy
        refine ⟨_, rfl, D, _, 0, _, rfl, rfl, SqL.of hy, atI_nat (j := 0) rfl, _, _, rfl, rfl, by show 2 ≤ sizeLine; decide, fun q hq => kw "loops" (by unfold loopW; rw [if_pos b1]) _ q (sm.trans (same_new hq)) ?_⟩
        rw [upd_same, b2]
      | nil =>
      refine iteF ?_
      have ok := loops_good ne l1 ef
      have bnd := loops_bnd ok
      refine ⟨_, rfl, p, _, rfl, .inl (SqL.of (sm _ _ hp)), ?_⟩
      refine ⟨_, rfl, by omega, by omega, ?_⟩
      rw [Int.toNat_natCast]
      refine for_range (fun i σ H' => ∃ v2 v3 : Option V, σ = [some (.ref p), some (.ref D), v2, v3, none] ∧ Same H H' ∧ ∀ j l, j < i → ls[j]? = some l → l.all (fun b => numOk b.1) = true) ⟨none, none, rfl, sm, fun _ _ lt => absurd lt (Nat.not_lt_zero _)⟩ (fun i σ H6 hi hP => ?_) (fun σ H6 hP => ?_)
      · obtain ⟨v2, v3, rfl, sm, all⟩ := hP
        obtain ⟨v, hv⟩ : ∃ v, xs[i]? = some v := ⟨_, List.getElem?_eq_getElem (by omega)⟩
        obtain ⟨l, q1, zs, hl, rfl, hq, lz, hz'⟩ := lps_at ha hv
        have lb := bnd.2 l (List.mem_of_getElem? hl)
        refine ⟨_, rfl, _, rfl, p, xs, _, .ref q1, rfl, rfl, SqL.of (sm _ _ hp), at_of (j := i) (by omega) hv, ?_⟩
        refine ⟨q1, rfl, ⟨_, SqL.of (sm _ _ hq)⟩, fun D4 hD4 => ?_⟩
        refine lc_it walk_list (fun i H' => Same H6 H' ∧ ∃ ys, H' D4 = some (.lst ys) ∧ ys.length ≤ i ∧ ys.isEmpty = (l.take i).all fun b => numOk b.1) ⟨same_new hD4, [], upd_same, Nat.zero_le _, rfl⟩ (fun i H' _ h => SqL.of (h.1 _ _ (sm _ _ hq))) (fun j x H7 H' hj hP hY => ?_) (fun H7 hP => ?_)
        · obtain ⟨sm7, ys, hy7, ly, em⟩ := hP
          obtain ⟨rfl, hx⟩ := hY
          obtain ⟨b, hb, a⟩ := boxes_at hz' hx
          obtain ⟨q2, rfl, hq2⟩ := box_inv (a.k (Kt.same (sm.trans sm7)))
          have zz := z3 l (List.mem_of_getElem? hl) b (List.mem_of_getElem? hb)
          have ta := take_all hb fun b => numOk b.1
          refine ⟨rfl, ?_⟩
          refine ⟨_, rfl, q2, _, 0, _, rfl, rfl, hq2, atI_nat (j := 0) rfl, b.1, by omega, rfl, fun H5 s5 => ⟨_, rfl, ?_⟩⟩
          cases c : numOk b.1 with
          | true =>
            refine iteF ⟨sm7.trans s5, ys, s5 _ _ hy7, by omega, ?_⟩
            rw [ta, c, Bool.and_true]
            exact em
          | false =>
            refine iteT ⟨_, rfl, ys, s5 _ _ hy7, small_lt (by omega), same_mut (sm7.trans s5) hD4, _, upd_same, by rw [List.length_append]; exact Nat.succ_le_succ ly, ?_⟩
            rw [ta, c]
            exact emp_snoc ys _ _
        · obtain ⟨sm7, ys, hy7, ly, em⟩ := hP
          rw [lz, List.take_length] at em
          refine ⟨Nat.zero_le _, fun D5 hD5 => ?_⟩
          have sz := same_new (o := .lst []) hD5
          refine ⟨D4, D5, ys, rfl, rfl, SqL.of (sz _ _ hy7), SqL.of upd_same, _, rfl, ?_⟩
          rw [em]
          cases c : l.all fun b => numOk b.1 with
          | true =>
            refine iteF ⟨_, _, rfl, (sm.trans sm7).trans sz, fun j l' lt hl' => ?_⟩
            by_cases e : j = i
            · rw [e, hl] at hl'
              rw [← Option.some.inj hl']
              exact c
            · exact all j l' (by omega) hl'
          | false =>
            obtain ⟨w1, w2⟩ := num_bad ok hl c all
            refine iteT ⟨_, rfl, _, _, rfl, rfl, by show 2 ≤ sizeLine; decide, fun q hq => kw "number" w1 _ q (((sm.trans sm7).trans sz).trans (same_new hq)) ?_⟩
            rw [upd_same, w2, Int.zero_add]
      obtain ⟨v2, v3, rfl, sm, nums⟩ := hP
      have nums := flat_all.mpr fun k l hl => nums k l (by rw [el]; exact (List.getElem?_eq_some_iff.mp hl).1) hl
      refine ⟨_, rfl, p, _, rfl, .inl (SqL.of (sm _ _ hp)), ?_⟩
      refine ⟨_, rfl, by omega, by omega, ?_⟩
      rw [Int.toNat_natCast]
      refine for_range (fun i σ H' => ∃ v2 v3 : Option V, σ = [some (.ref p), some (.ref D), v2, v3, none] ∧ Same H H' ∧ ∀ j l, j < i → ls[j]? = some l → l.all (fun b => sortOk b.2) = true) ⟨_, _, rfl, sm, fun _ _ lt => absurd lt (Nat.not_lt_zero _)⟩ (fun i σ H6 hi hP => ?_) (fun σ H6 hP => ?_)
      · obtain ⟨v2, v3, rfl, sm, all⟩ := hP
        obtain ⟨v, hv⟩ : ∃ v, xs[i]? = some v := ⟨_, List.getElem?_eq_getElem (by omega)⟩
        obtain ⟨l, q1, zs, hl, rfl, hq, lz, hz'⟩ := lps_at ha hv
        have lb := bnd.2 l (List.mem_of_getElem? hl)
        refine ⟨_, rfl, _, rfl, p, xs, _, .ref q1, rfl, rfl, SqL.of (sm _ _ hp), at_of (j := i) (by omega) hv, ?_⟩
        refine ⟨q1, rfl, ⟨_, SqL.of (sm _ _ hq)⟩, fun D4 hD4 => ?_⟩
        refine lc_it walk_list (fun i H' => Same H6 H' ∧ ∃ ys, H' D4 = some (.lst ys) ∧ ys.length ≤ i ∧ ys.isEmpty = (l.take i).all fun b => sortOk b.2) ⟨same_new hD4, [], upd_same, Nat.zero_le _, rfl⟩ (fun i H' _ h => SqL.of (h.1 _ _ (sm _ _ hq))) (fun j x H7 H' hj hP hY => ?_) (fun H7 hP => ?_)
        · obtain ⟨sm7, ys, hy7, ly, em⟩ := hP
          obtain ⟨rfl, hx⟩ := hY
          obtain ⟨b, hb, a⟩ := boxes_at hz' hx
          obtain ⟨q2, rfl, hq2⟩ := box_inv (a.k (Kt.same (sm.trans sm7)))
          have zz := z3 l (List.mem_of_getElem? hl) b (List.mem_of_getElem? hb)
          have ta := take_all hb fun b => sortOk b.2
          refine ⟨rfl, ?_⟩
          refine ⟨_, rfl, q2, _, 1, _, rfl, rfl, hq2, atI_nat (j := 1) rfl, by show 2 ≤ sizeLine; decide, fun t2 ht => ?_⟩
          have s5 := same_new (o := .tup [.str "plain", .str "shy"]) ht
          have ht2 : upd H' t2 (.tup [.str "plain", .str "shy"]) t2 = some (.tup [.str "plain", .str "shy"]) := upd_same
          generalize upd H' t2 (.tup [.str "plain", .str "shy"]) = H5 at *
          refine ⟨t2, _, rfl, .inr (SqT.of ht2), rfl, rfl, ?_⟩
          rw [if_pos rfl, inV_two]
          refine ⟨_, rfl, ?_⟩
          cases c : sortOk b.2 with
          | true =>
            refine iteF ⟨sm7.trans s5, ys, s5 _ _ hy7, by omega, ?_⟩
            rw [ta, c, Bool.and_true]
            exact em
          | false =>
            refine iteT ⟨_, rfl, ys, s5 _ _ hy7, small_lt (by omega), same_mut (sm7.trans s5) hD4, _, upd_same, by rw [List.length_append]; exact Nat.succ_le_succ ly, ?_⟩
            rw [ta, c]
            exact emp_snoc ys _ _
        · obtain ⟨sm7, ys, hy7, ly, em⟩ := hP
          rw [lz, List.take_length] at em
          refine ⟨Nat.zero_le _, fun D5 hD5 => ?_⟩
          have sz := same_new (o := .lst []) hD5
          refine ⟨D4, D5, ys, rfl, rfl, SqL.of (sz _ _ hy7), SqL.of upd_same, _, rfl, ?_⟩
          rw [em]
          cases c : l.all fun b => sortOk b.2 with
          | true =>
            refine iteF ⟨_, _, rfl, (sm.trans sm7).trans sz, fun j l' lt hl' => ?_⟩
            by_cases e : j = i
            · rw [e, hl] at hl'
              rw [← Option.some.inj hl']
              exact c
            · exact all j l' (by omega) hl'
          | false =>
            obtain ⟨w1, w2⟩ := sort_bad ok nums hl c all
            refine iteT ⟨_, rfl, _, _, rfl, rfl, by show 2 ≤ sizeLine; decide, fun q hq => kw "sort" w1 _ q (((sm.trans sm7).trans sz).trans (same_new hq)) ?_⟩
            rw [upd_same, w2, Int.zero_add]
      obtain ⟨v2, v3, rfl, sm, sorts⟩ := hP
      have sorts := flat_all.mpr fun k l hl => sorts k l (by rw [el]; exact (List.getElem?_eq_some_iff.mp hl).1) hl
      refine ⟨Nat.zero_le _, fun N hN => ?_⟩
      have hN0 := sm.free hN
      have sN := same_new (o := .lst []) hN
      have hn : upd H6 N (.lst []) N = some (.lst []) := upd_same
      have sm := sm.trans sN
      generalize upd H6 N (.lst []) = HN at *
      refine ⟨_, rfl, p, _, rfl, .inl (SqL.of (sm _ _ hp)), ?_⟩
      refine ⟨_, rfl, by omega, by omega, ?_⟩
      rw [Int.toNat_natCast]
      refine for_range (fun i σ H' => ∃ v2 v3 : Option V, σ = [some (.ref p), some (.ref D), v2, v3, some (.ref N)] ∧ Same H H' ∧ H' N = some (.lst ((((ls.take i).flatten).map Prod.fst).map V.str)) ∧ (((ls.take i).flatten).map Prod.fst).Nodup) ⟨_, _, rfl, sm, hn, .nil⟩ (fun i σ H7 hi hP => ?_) (fun σ H7 hP => ?_)
      · obtain ⟨v2, v3, rfl, sm, hn, nd⟩ := hP
        obtain ⟨v, hv⟩ : ∃ v, xs[i]? = some v := ⟨_, List.getElem?_eq_getElem (by omega)⟩
        obtain ⟨l, q1, zs, hl, rfl, hq, lz, hz'⟩ := lps_at ha hv
        have lb := bnd.2 l (List.mem_of_getElem? hl)
        have fl := flat_le ls i bnd.2
        refine ⟨_, rfl, _, rfl, p, xs, _, .ref q1, rfl, rfl, SqL.of (sm _ _ hp), at_of (j := i) (by omega) hv, ?_⟩
        refine ⟨q1, rfl, ⟨_, SqL.of (sm _ _ hq)⟩, ?_⟩
        refine for_list (xs := zs) (fun j σ H' => ∃ v3 : Option V, σ = [some (.ref p), some (.ref D), some (.int (0 + (i : Nat))), v3, some (.ref N)] ∧ Same H H' ∧ H' N = some (.lst ((((ls.take i).flatten ++ l.take j).map Prod.fst).map V.str)) ∧ (((ls.take i).flatten ++ l.take j).map Prod.fst).Nodup) ⟨_, rfl, sm, by simpa using hn, by simpa using nd⟩ (fun _ σ H' _ h => let ⟨_, _, s, _⟩ := h; SqL.of (s _ _ hq)) (fun j x σ H8 hx hP => ?_) (fun σ H8 hP => ?_)
        · obtain ⟨v3, rfl, sm, hn, nd⟩ := hP
          obtain ⟨b, hb, a⟩ := boxes_at hz' hx
          obtain ⟨q2, rfl, hq2⟩ := box_inv (a.k (Kt.same sm))
          refine ⟨_, rfl, q2, _, 0, _, rfl, rfl, hq2, atI_nat (j := 0) rfl, _, rfl, N, _, rfl, .inl (SqL.of hn), rfl, flat_strs _, _, rfl, ite2 (fun c => ?_) (fun c => ?_)⟩
          · rw [in_strs] at c
            obtain ⟨w1, w2⟩ := dbl_bad ok nums sorts hl hb nd (of_decide_eq_true c)
            refine ⟨_, rfl, _, _, rfl, rfl, by show 2 ≤ sizeLine; decide, fun q hq => kw "double" w1 _ q (sm.trans (same_new hq)) ?_⟩
            rw [upd_same, w2, Int.zero_add]
          · rw [in_strs] at c
            have nin : b.1 ∉ ((ls.take i).flatten ++ l.take j).map Prod.fst := by simpa using c
            have ll : ((ls.take i).flatten ++ l.take j).length ≤ 100 := by rw [List.length_append, List.length_take]; omega
            refine ⟨_, rfl, .inl ⟨rfl, _, SqL.of hn⟩, _, rfl, q2, _, 0, _, rfl, rfl, hq2, atI_nat (j := 0) rfl, N, _, _, rfl, rfl, hn, small_lt (by rw [List.length_map, List.length_map]; omega), ?_⟩
            have e : ((ls.take i).flatten ++ l.take (j + 1)).map Prod.fst = ((ls.take i).flatten ++ l.take j).map Prod.fst ++ [b.1] := by
              rw [List.take_add_one, hb, ← List.append_assoc, List.map_append]
              rfl
            refine ⟨_, rfl, same_mut sm hN0, ?_, ?_⟩
            · rw [upd_same, e, List.map_append (f := V.str)]
              rfl
            · rw [e]
              refine List.nodup_append.mpr ⟨nd, by simp, fun x m y my => ?_⟩
              have ey : y = b.1 := by simpa using my
              exact fun z => nin (by rw [← ey, ← z]; exact m)
        · obtain ⟨v3, rfl, sm, hn, nd⟩ := hP
          rw [lz, List.take_length, ← flat_succ hl] at hn nd
          exact ⟨_, _, rfl, sm, hn, nd⟩
      · obtain ⟨v2, v3, rfl, sm, hn, nd⟩ := hP
        rw [el, List.take_length] at nd
        exact kk (all_good ok nums sorts nd) _ sm
end
end K10

namespace K10
open PySem L2 Wm TL Dv De
section
variable {P : Program} {w : World} {K : PySem.W.Frag} {mg : Str → Option Value} {base : Heap}
theorem ok_due (T : Txt K mg) : FnOk P w K mg base CX0 3 T.a_due T.d_due ["_law_text"] (sp_due K) := by
  refine T.F_due.ok sc_due (fun vs H Q E h => ?_) (fun cdv A outer s H vs Q E hr h => ?_)
  · obtain ⟨t, rfl, _⟩ := h
    rfl
  · obtain ⟨t, rfl, lt, kb, kg⟩ := h
    obtain ⟨w1, w2, w3⟩ := split_bnd (t := t) (b := "\n") (s := [10]) (by decide +kernel) (by simp) (by decide)
    unfold readO at kb kg
    refine ⟨_, (pss_cons (ps_set (i := 1) sc_due.nd rfl (Or.inl rfl) (pe_split (pv 0) pe_str))
      (pss_cons (ps_set (i := 2) sc_due.nd rfl (Or.inl rfl) (pe_split (pe_ix ix_list (pv 1) pe_int (fun _ _ => rfl)) pe_str))
      (pss_cons (ps_if (PW.pt (pw_or (pt_cmpR op_ne (pe_callB call_len_seq (by rfl) T.z_len PySem.boot_len (pa_cons (pv 2) pa_nil)) pe_int (nomark _)) (pw_or (pt_cmpR op_ne (pe_ix ix_list (pv 2) pe_int (fun _ _ => rfl)) pe_str (nomark _)) (pw_or1 (pt_cmpR op_ne (pe_ix ix_list (pv 2) pe_int (fun _ _ => rfl)) pe_str (nomark _))))))
        (pss_one (ps_ret (pe_tup (pa_cons pe_int (pa_cons pe_str pa_nil)))))
        pss_nil)
      (pss_cons (ps_for PassesOwn.never rfl (pi_list (pe_lst (pa_cons (pe_ix ix_list (pv 2) pe_int (fun _ _ => rfl)) (pa_cons (pe_ix ix_list (pv 2) pe_int (fun _ _ => rfl)) pa_nil)))) (pg_name (i := 3) sc_due.nd rfl (Or.inl rfl))
        (pss_one (ps_if (PW.pt (pw_or (pt_cmpR op_ne (pe_callB call_len_str (by rfl) T.z_len PySem.boot_len (pa_cons (pv 3) pa_nil)) pe_int (nomark _)) (pw_or1 (pt_cmpR op_notIn_sign (pv 3) pe_str rfl))))
          (pss_one (ps_ret (pe_tup (pa_cons pe_int (pa_cons pe_str pa_nil)))))
          pss_nil)))
      (pss_cons (ps_set (i := 4) sc_due.nd rfl (Or.inl rfl) (pe_lst pa_nil))
      (pss_cons (ps_for PassesOwn.never rfl (pi_range2 (by rfl) T.z_range (pa_cons pe_int (pa_cons (pe_callB call_len_seq (by rfl) T.z_len PySem.boot_len (pa_cons (pv 1) pa_nil)) pa_nil))) (pg_name (i := 5) sc_due.nd rfl (Or.inl rfl))
        (pss_cons (ps_set (i := 6) sc_due.nd rfl (Or.inl rfl) (pe_call (ok_pieces T) (hr.mono (by decide)) (by rfl) T.g_pieces T.F_pieces.kp T.b_pieces .nil pass0 (pa_cons (pe_ix ix_list (pv 1) (pv 5) (fun _ _ => rfl)) pa_nil)))
        (pss_cons (ps_if (pt_cmpR op_isN (pv 6) pe_non (nomark _))
          (pss_one (ps_ret (pe_tup (pa_cons (pv 5) (pa_cons pe_str pa_nil)))))
          pss_nil)
        (pss_one (ps_expr (pe_bm PySem.F.plainAttrs_list PySem.F.slot_list_append PySem.F.type_list_append mt_append (pv 4) (pa_cons (pv 6) pa_nil)))))))
      (pss_cons (ps_set (i := 7) sc_due.nd rfl (Or.inl rfl) (pe_call (ok_first T) (hr.mono (by decide)) (by rfl) T.g_first T.F_first.kp T.b_first .nil pass0 (pa_cons (pv 4) pa_nil)))
      (pss_cons (ps_if (pt_cmpR op_notN (pv 7) pe_non (nomark _))
        (pss_one (ps_ret (pv 7)))
        pss_nil)
      (pss_cons (ps_set (i := 8) sc_due.nd rfl (Or.inl rfl) (pe_lst (pa_cons (pe_callTy call_int_str (by rfl) T.z_int (by decide +kernel) (pa_cons (pe_ix ix_list (pv 2) pe_int (fun _ _ => rfl)) pa_nil)) (pa_cons (pe_callTy call_int_str (by rfl) T.z_int (by decide +kernel) (pa_cons (pe_ix ix_list (pv 2) pe_int (fun _ _ => rfl)) pa_nil)) pa_nil))))
      (pss_cons (ps_if (PW.pt (pw_or (pt_cmpR op_lt (pe_ix ix_list (pv 8) pe_int (fun _ _ => rfl)) pe_int (nomark _)) (pw_or1 (pt_cmpR op_gt (pe_ix ix_list (pv 8) pe_int (fun _ _ => rfl)) pe_int (nomark _)))))
        (pss_one (ps_ret (pe_tup (pa_cons pe_int (pa_cons pe_str pa_nil)))))
        pss_nil)
      (pss_cons (ps_if (PW.pt (pw_or (pt_cmpR op_lt (pe_ix ix_list (pv 8) pe_int (fun _ _ => rfl)) pe_int (nomark _)) (pw_or (pt_cmpR op_gt (pe_ix ix_list (pv 8) pe_int (fun _ _ => rfl)) pe_int (nomark _)) (pw_or1 (pt_cmpR op_gt (pe_ix ix_list (pv 8) pe_int (fun _ _ => rfl)) (pe_ix ix_list (pv 8) pe_int (fun _ _ => rfl)) (nomark _))))))
        (pss_one (ps_ret (pe_tup (pa_cons pe_int (pa_cons pe_str pa_nil)))))
        pss_nil)
      (pss_one (ps_ret (pe_tup (pa_cons (pv 4) (pa_cons (pv 8) pa_nil)))))))))))))))), ?_⟩
    refine ⟨_, rfl, ⟨_, rfl⟩, _, _, rfl, rfl, by decide +kernel, small_len (by omega), fun q hq => ?_⟩
    generalize Txt.split t "\n" = rows at *
    obtain ⟨r0, rs, rfl⟩ := List.exists_cons_of_ne_nil w3
    have s1 := same_new (o := .lst ((r0 :: rs).map V.str)) hq
    have hS : upd H q (.lst ((r0 :: rs).map V.str)) q = some (.lst ((r0 :: rs).map V.str)) := upd_same
    generalize upd H q (.lst ((r0 :: rs).map V.str)) = H1 at *
    have lr0 := w2 r0 (by simp)
    have er0 : readW (r0 :: rs) = match headO r0 with
      | none => .bad 0 "head"
      | some (r, h) => match rowsO rs with
        | .inl i => .bad ((i : Int) + 1) "loop"
        | .inr ls => match townW ls r h with
          | some w => .bad (wrongI w ls) w
          | none => .good ls r h := rfl
    rw [er0] at kb kg
    obtain ⟨v1, v2, v3⟩ := split_bnd (t := r0) (b := " ") (s := [32]) (by decide +kernel) (by simp) (by decide)
    refine ⟨_, rfl, q, _, 0, _, rfl, rfl, SqL.of hS, atI_nat (j := 0) rfl, ⟨_, rfl⟩, _, _, rfl, rfl, by decide +kernel, small_len (by omega), fun q2 hq2 => ?_⟩
    unfold headO at kb kg
    generalize Txt.split r0 " " = ws at *
    have s2 := same_new (o := .lst (ws.map V.str)) hq2
    have hW : upd H1 q2 (.lst (ws.map V.str)) q2 = some (.lst (ws.map V.str)) := upd_same
    have hS := s2 _ _ hS
    have s12 := s1.trans s2
    generalize upd H1 q2 (.lst (ws.map V.str)) = H2 at *
    have bad : headW ws = none → ∀ H' dd, Same H H' → H' dd = none → Q (.ref dd) (upd H' dd (.tup [.int 0, .str "head"])) := fun e H' dd sm hdd => by
      rw [e] at kb
      exact kb 0 "head" rfl _ _ (sm.trans (same_new hdd)) ⟨dd, rfl, upd_same⟩
    refine ⟨_, rfl, q2, _, rfl, .inl (SqL.of hW), rfl, _, rfl, ?_⟩
    by_cases c4 : ws.length = 4
    case neg => exact iteY (by simp [c4]; omega) (iteT ⟨by show 2 ≤ sizeLine; decide, fun dd hdd => bad (headW_no c4) _ dd s12 hdd⟩)
    refine iteN (by simp [c4]) ?_
    obtain ⟨a, b, c, d, rfl⟩ := four c4
    have lb := v2 b (by simp)
    have ld := v2 d (by simp)
    refine ⟨_, rfl, q2, _, 0, _, rfl, rfl, SqL.of hW, atI_nat (j := 0) rfl, rfl, _, rfl, ?_⟩
    by_cases ea : a = "rounds"
    case neg => exact iteY (by simpa using ea) (iteT ⟨by show 2 ≤ sizeLine; decide, fun dd hdd => bad (headW_a fun z => ea z.1) _ dd s12 hdd⟩)
    refine iteN (by simp [ea]) ?_
    refine ⟨_, rfl, q2, _, 2, _, rfl, rfl, SqL.of hW, atI_nat (j := 2) rfl, rfl, _, rfl, ?_⟩
    by_cases ec : c = "hear"
    case neg => exact iteY (by simpa using ec) ⟨by show 2 ≤ sizeLine; decide, fun dd hdd => bad (headW_a fun z => ec z.2) _ dd s12 hdd⟩
    refine iteN (by simp [ec]) ?_
    refine ⟨_, rfl, q2, _, 1, _, rfl, rfl, SqL.of hW, atI_nat (j := 1) rfl, _, rfl, q2, _, 3, _, rfl, rfl, SqL.of hW, atI_nat (j := 3) rfl, by show 2 ≤ sizeLine; decide, fun q3 hq3 => ?_⟩
    have s3 := same_new (o := .lst [.str b, .str d]) hq3
    have hP3 : upd H2 q3 (.lst [.str b, .str d]) q3 = some (.lst (([b, d] : List Str).map V.str)) := upd_same
    have hS := s3 _ _ hS
    have hW := s3 _ _ hW
    have s13 := s12.trans s3
    generalize upd H2 q3 (.lst [.str b, .str d]) = H3 at *
    refine ⟨q3, rfl, ⟨_, SqL.of hP3⟩, ?_⟩
    refine for_list (xs := ([b, d] : List Str).map V.str) (fun j σ H' => ∃ v : Option V, σ = [some (.str t), some (.ref q), some (.ref q2), v, none, none, none, none, none] ∧ H' = H3 ∧ ∀ x ∈ ([b, d] : List Str).take j, (digO x).isSome = true) ⟨none, rfl, rfl, by simp⟩ (fun _ σ H' _ h => let ⟨_, _, e, _⟩ := h; e ▸ SqL.of hP3) (fun j x σ H' hx hP => ?_) (fun σ H' hP => ?_)
    · obtain ⟨v, rfl, rfl, dg⟩ := hP
      rw [List.getElem?_map] at hx
      obtain ⟨y, hy, rfl⟩ := Option.map_eq_some_iff.mp hx
      have my : y = b ∨ y = d := by simpa using List.mem_of_getElem? hy
      have no : digO y = none → headW [a, b, c, d] = none := fun e => by
        rcases my with z | z
        · exact headW_b (by rw [← z]; exact e)
        · exact headW_d (by rw [← z]; exact e)
      have ly : y.length ≤ 100000 := by rcases my with z | z <;> rw [z] <;> omega
      have go : (digO y).isSome = true → ∀ x ∈ ([b, d] : List Str).take (j + 1), (digO x).isSome = true := fun e x m => by
        rw [List.take_add_one, hy] at m
        rcases List.mem_append.mp m with m | m
        · exact dg x m
        · rw [show x = y by simpa using m]
          exact e
      refine ⟨_, rfl, _, rfl, small_len ly, rfl, _, rfl, ?_⟩
      by_cases c1 : y.length = 1
      case neg => exact iteY (by simp [c1]; omega) (iteT ⟨by show 2 ≤ sizeLine; decide, fun dd hdd => bad (no (digO_not c1)) _ dd s13 hdd⟩)
      refine iteN (by simp [c1]) ?_
      obtain ⟨k, rfl⟩ := one_sign c1
      refine ⟨_, rfl, k, _, rfl, rfl, _, rfl, ?_⟩
      rw [digO_one] at go
      have e1 := digO_one k
      by_cases m : k ∈ ("0123456789" : Str).cps.toList
      · rw [decide_eq_true m] at go ⊢
        exact iteF ⟨_, rfl, rfl, go rfl⟩
      · rw [decide_eq_false m] at e1 ⊢
        exact iteT ⟨by show 2 ≤ sizeLine; decide, fun dd hdd => bad (no (by cases e : digO ⟨#[k]⟩ with | none => rfl | some n => rw [e] at e1; cases e1)) _ dd s13 hdd⟩
    obtain ⟨v, rfl, rfl, dg⟩ := hP
    obtain ⟨r, eb⟩ := Option.isSome_iff_exists.mp (dg b (by simp))
    obtain ⟨h, ed⟩ := Option.isSome_iff_exists.mp (dg d (by simp))
    rw [headW_y ⟨ea, ec⟩ eb ed] at kb kg
    dsimp only at kb kg
    clear bad dg
    refine ⟨Nat.zero_le _, fun D hD => ?_⟩
    have s4 := same_new (o := .lst []) hD
    have hy0 : upd H' D (.lst []) D = some (.lst []) := upd_same
    generalize upd H' D (.lst []) = H4 at *
    refine ⟨_, rfl, q, _, rfl, .inl (SqL.of (s4 _ _ hS)), ?_⟩
    have lrs : ((r0 :: rs).map V.str).length = rs.length + 1 := by rw [List.length_map]; rfl
    have w1' : rs.length + 1 ≤ t.length + 1 := w1
    refine ⟨_, _, rfl, by rw [lrs]; omega, ?_⟩
    rw [lrs, show ((((rs.length + 1 : Nat) : Int) - 1).toNat) = rs.length by omega]
    refine for_range (fun i σ A => ∃ (v5 v6 : Option V) (ys : List V), σ = [some (.str t), some (.ref q), some (.ref q2), v, some (.ref D), v5, v6, none, none] ∧ Same H' A ∧ ys.length = i ∧ A D = some (.lst ys) ∧ ∀ (j : Nat) (y : V), ys[j]? = some y → ∃ r l, rs[j]? = some r ∧ rowO r = some l ∧ LpAt K A y l ∧ y ≠ .ref D)
      ⟨none, none, [], rfl, s4, rfl, hy0, fun (j : Nat) (y : V) e => by simp at e⟩ (fun i σ A hi hP => ?_) (fun σ A hP => ?_)
    · obtain ⟨v5, v6, ys, rfl, sm, ely, hy, hR⟩ := hP
      have hrw : rs[i]? = some rs[i] := List.getElem?_eq_getElem hi
      generalize rs[i] = rw' at *
      have lrw := w2 rw' (List.mem_cons_of_mem _ (List.mem_of_getElem? hrw))
      refine ⟨_, rfl, _, rfl, q, _, _, .str rw', rfl, rfl, SqL.of (sm _ _ hS), at_of (j := i + 1) (by omega) (by rw [List.getElem?_map, List.getElem?_cons_succ, hrw]; rfl), rw', rfl, by omega, fun l el A1 v s5 hL fr => ?_, fun en A1 s5 => ?_⟩
      · have hy5 := s5 _ _ hy
        have vD : v ≠ .ref D := fun e => by
          have z := fr D e
          rw [hy] at z
          cases z
        have vn : v ≠ .non := fun e => by
          obtain ⟨_, _, e2, _⟩ := hL
          rw [e] at e2
          cases e2
        refine ⟨_, rfl, rfl, _, rfl, ?_⟩
        rw [decide_eq_false vn]
        refine iteF ?_
        refine ⟨_, rfl, .inl ⟨rfl, _, SqL.of hy5⟩, _, rfl, D, _, _, rfl, rfl, hy5, small_lt (by omega), ?_⟩
        refine ⟨_, _, ys ++ [v], rfl, same_mut (sm.trans s5) hD, by rw [List.length_append, ely]; rfl, upd_same, fun j y hj => ?_⟩
        have kt : Kt K A1 (upd A1 D (.lst (ys ++ [v]))) := Kt.lst hy5
        have keepL : ∀ {y l}, LpAt K A1 y l → y ≠ .ref D → LpAt K (upd A1 D (.lst (ys ++ [v]))) y l := fun {y l} ⟨q, zs, e, hq, hd⟩ ne => ⟨q, zs, e, by rw [upd_ne (fun z => ne (by rw [e, z]))]; exact hq, hd.k kt⟩
        by_cases lj : j < ys.length
        · rw [List.getElem?_append_left lj] at hj
          obtain ⟨r', l', e1, e2, e3, e4⟩ := hR j y hj
          exact ⟨r', l', e1, e2, keepL (e3.k s5) e4, e4⟩
        · rw [List.getElem?_append_right (by omega)] at hj
          have e0 : j - ys.length = 0 := by
            by_cases z : j - ys.length = 0
            · exact z
            · rw [List.getElem?_eq_none (by rw [List.length_singleton]; omega)] at hj
              cases hj
          rw [e0] at hj
          have ez : v = y := by simpa using hj
          subst ez
          have ej : j = i := by omega
          subst ej
          exact ⟨rw', l, hrw, el, keepL hL vD, vD⟩
      · have e2 : rowsO rs = .inl i := rows_bad (fun j lj => by
          obtain ⟨r', l', e1, e2, _⟩ := hR j ys[j] (List.getElem?_eq_getElem (by omega))
          exact ⟨r', l', e1, e2⟩) hrw en
        rw [e2] at kb
        refine ⟨_, rfl, rfl, _, rfl, ?_⟩
        rw [decide_eq_true (rfl : V.non = V.non)]
        refine iteT ⟨_, rfl, by show 2 ≤ sizeLine; decide, fun dd hdd => kb _ _ rfl _ _ (((s13.trans sm).trans s5).trans (same_new hdd)) ⟨dd, rfl, ?_⟩⟩
        rw [upd_same, show (1 : Int) + (i : Nat) = (i : Int) + 1 by omega]
    obtain ⟨v5, v6, ys, rfl, sm, ely, hy, hR⟩ := hP
    obtain ⟨ls, els, ell, ela⟩ := rows_all (rs := rs) fun j r h => by
      have jl := (List.getElem?_eq_some_iff.mp h).1
      obtain ⟨r', l', e1, e2, _⟩ := hR j ys[j] (List.getElem?_eq_getElem (by omega))
      rw [h] at e1
      obtain rfl := Option.some.inj e1
      exact ⟨l', e2⟩
    rw [els] at kb kg
    dsimp only at kb kg
    obtain ⟨sz, l1⟩ := rows_sz (n := 20000) ell ela (fun r m => by have := w2 r (List.mem_cons_of_mem _ m); omega) (by omega) (by omega)
    have hL : LpsAt K A D ls := ⟨ys, hy, by rw [ely, ell], fun i v hv => by
      obtain ⟨r', l', e1, e2, e3, _⟩ := hR i v hv
      obtain ⟨l2, e4, e5⟩ := ela i r' e1
      rw [e2] at e4
      obtain rfl := Option.some.inj e4
      exact ⟨l', e5, e3⟩⟩
    have sA := s13.trans sm
    refine ⟨_, rfl, D, ls, rfl, hL, sz, l1, fun en A1 s5 => ?_, fun wd ew A1 q9 s5 hq9 => ?_⟩
    case refine_2 =>
      have et : townW ls r h = some wd := by unfold townW; rw [ew]
      rw [et] at kb
      refine ⟨_, rfl, rfl, _, rfl, ?_⟩
      exact iteT ⟨_, rfl, kb _ _ rfl _ _ (sA.trans s5) ⟨q9, rfl, hq9⟩⟩
    have et : townW ls r h = ruleW r h := by unfold townW; rw [en]
    rw [et] at kb kg
    refine ⟨_, rfl, rfl, _, rfl, iteF ?_⟩
    obtain ⟨r9, rl, ri⟩ := digO_some eb
    obtain ⟨h9, hl, hi⟩ := digO_some ed
    have hW5 := SqL.of (K := K) (s5 _ _ (sm _ _ hW))
    refine ⟨_, rfl, q2, _, 1, _, rfl, rfl, hW5, atI_nat (j := 1) rfl, b, _, rfl, ri, by rw [rl]; decide, ?_⟩
    refine ⟨_, rfl, q2, _, 3, _, rfl, rfl, hW5, atI_nat (j := 3) rfl, d, _, rfl, hi, by rw [hl]; decide, by show 2 ≤ sizeLine; decide, fun q8 hq8 => ?_⟩
    have s8 := same_new (o := .lst [.int (r : Nat), .int (h : Nat)]) hq8
    have h8 : upd A1 q8 (.lst [.int (r : Nat), .int (h : Nat)]) q8 = some (.lst [.int (r : Nat), .int (h : Nat)]) := upd_same
    generalize upd A1 q8 (.lst [.int (r : Nat), .int (h : Nat)]) = A8 at *
    have sB := (sA.trans s5).trans s8
    have hL8 := hL.k (s5.trans s8)
    have h8' := SqL.of (K := K) h8
    have bad : ∀ wd : Str, (wd = "rounds" ∨ wd = "hear") → ruleW r h = some wd → ∀ dd, A8 dd = none → Q (.ref dd) (upd A8 dd (.tup [.int 0, .str wd])) := fun wd c e dd hdd => by
      rw [e] at kb
      have := kb _ _ rfl (upd A8 dd (.tup [.int 0, .str wd])) (.ref dd) (sB.trans (same_new hdd))
      refine this ⟨dd, rfl, ?_⟩
      rw [upd_same]
      unfold wrongI
      rw [if_pos c]
    have ret : ∀ wd : Str, (wd = "rounds" ∨ wd = "hear") → ruleW r h = some wd → ∀ dd, A8 dd = none → Q (.ref dd) (upd A8 dd (.tup [.int 0, .str wd])) := bad
    refine ⟨_, rfl, q8, _, 0, _, rfl, rfl, h8', atI_nat (j := 0) rfl, _, _, rfl, rfl, _, rfl, ?_⟩
    by_cases a1 : (r : Int) < 1
    · exact iteY (decide_eq_true a1) (iteT ⟨by show 2 ≤ sizeLine; decide, ret _ (.inl rfl) (by unfold ruleW; rw [if_neg (by omega)])⟩)
    refine iteN (decide_eq_false a1) ?_
    refine ⟨_, rfl, q8, _, 0, _, rfl, rfl, h8', atI_nat (j := 0) rfl, _, _, rfl, rfl, _, rfl, ?_⟩
    by_cases a2 : (8 : Int) < r
    · exact iteY (decide_eq_true a2) ⟨by show 2 ≤ sizeLine; decide, ret _ (.inl rfl) (by unfold ruleW; rw [if_neg (by omega)])⟩
    refine iteN (decide_eq_false a2) ?_
    have y1 : 1 ≤ (r : Int) ∧ (r : Int) ≤ 8 := ⟨by omega, by omega⟩
    refine ⟨_, rfl, q8, _, 1, _, rfl, rfl, h8', atI_nat (j := 1) rfl, _, _, rfl, rfl, _, rfl, ?_⟩
    by_cases b1 : (h : Int) < 1
    · exact iteY (decide_eq_true b1) (iteT ⟨by show 2 ≤ sizeLine; decide, ret _ (.inr rfl) (by unfold ruleW; rw [if_pos y1, if_neg (fun z => by omega)])⟩)
    refine iteN (decide_eq_false b1) ?_
    refine ⟨_, rfl, q8, _, 1, _, rfl, rfl, h8', atI_nat (j := 1) rfl, _, _, rfl, rfl, _, rfl, ?_⟩
    by_cases b2 : (2 : Int) < h
    · exact iteY (decide_eq_true b2) (iteT ⟨by show 2 ≤ sizeLine; decide, ret _ (.inr rfl) (by unfold ruleW; rw [if_pos y1, if_neg (fun z => by omega)])⟩)
    refine iteN (decide_eq_false b2) ?_
    refine ⟨_, rfl, q8, _, 1, _, rfl, rfl, h8', atI_nat (j := 1) rfl, _, rfl, q8, _, 0, _, rfl, rfl, h8', atI_nat (j := 0) rfl, _, _, rfl, rfl, _, rfl, ?_⟩
    by_cases b3 : (r : Int) < h
    · exact iteY (decide_eq_true b3) ⟨by show 2 ≤ sizeLine; decide, ret _ (.inr rfl) (by unfold ruleW; rw [if_pos y1, if_neg (fun z => by omega)])⟩
    refine iteN (decide_eq_false b3) ?_
    rw [show ruleW r h = none by unfold ruleW; rw [if_pos y1, if_pos (by omega)]] at kg
    refine ⟨_, rfl, _, rfl, by show 2 ≤ sizeLine; decide, fun dd hdd => ?_⟩
    have sD := same_new (o := .tup [.ref D, .ref q8]) hdd
    exact kg ls r h rfl _ _ (sB.trans sD) ⟨dd, D, q8, rfl, upd_same, hL8.k sD, sD _ _ h8⟩
end
end K10

namespace K10
open PySem L2 Wm TL Dv De
section
variable {P : Program} {w : World} {K : PySem.W.Frag} {mg : Str → Option Value} {base : Heap}
theorem TownAt.ks {C : Addr} {H H' : Hp} {p : Addr} {ls : List (List Bx)} {r h : Int} (a : TownAt K C H p ls r h) (s : Same H H') : TownAt K C H' p ls r h := by
  obtain ⟨dx, fs, y, y2, h1, h2, h3, h4, h5, h6, h7, h8⟩ := a
  exact ⟨dx, fs, y, y2, s _ _ h1, h2, h3, h4, h5, h6, h7.k (Kt.same s), h8.k (Kt.same s)⟩
theorem ok_read (T : Txt K mg) : FnOk P w K mg base CX0 9 T.a_read T.d_read ["_law_text"] (sp_read K T.C) := by
  refine T.F_read.ok sc_read (fun vs H Q E h => ?_) (fun cdv A outer s H vs Q E hr h => ?_)
  · obtain ⟨t, rfl, _⟩ := h
    rfl
  · obtain ⟨t, rfl, lt, kb, kg⟩ := h
    refine ⟨_, (pss_cons (Ta.ps_try_ass (W := fun _ _ _ _ => False) rfl rfl sc_read.nd takes0 (fun U pn xe tk _ => (pss_one (ps_set (i := 1) sc_read.nd rfl (Or.inl rfl) (pe_callS (ok_read_town T) (hr.mono (by decide)) rfl T.g_read_town T.F_read_town.kp T.b_read_town (fun σ => passAt tk σ) (by exact (pa_cons (pv 0) pa_nil)))))) (Ta.Hds.cons (h := ⟨Value.ref T.CR, 2, _⟩) rfl rfl ⟨rfl, by decide, Or.inl T.lowR.gC⟩ (fun a oe cls d pn hz hf => (St2.pss_two (ps_if (PW.pt (pw_or (pt_not (pt_val (pe_callB (Xe.call_isD T.xcR T.cliR hz hf) (by rfl) T.z_isinstance (by decide +kernel) (pa_cons (pv 2) (pa_cons (pe_glob (v := V.ref T.Wc) (by rfl) T.gWc rfl) pa_nil))))) (pw_or (pt_val (pe_callB (Xe.call_isD T.xcR T.cliR hz hf) (by rfl) T.z_isinstance (by decide +kernel) (pa_cons (pv 2) (pa_cons (pe_glob (v := V.ref T.CB) (by rfl) T.lowB.gC rfl) pa_nil)))) (pw_or1 (pt_val (pe_callB (show CallR _ _ (rIsi K) from call_isi) (by rfl) T.z_isinstance (by decide +kernel) (pa_cons (pe_byLowRa T.lowR hz hf (pv 2)) (pa_cons (pe_bltn (v := V.ty "bool") (by rfl) T.z_bool (by decide +kernel) rfl) pa_nil)))))))) (pss_one (ps_ret (pe_tup (pa_cons pe_str (pa_cons pe_str pa_nil))))) pss_nil) (ps_ret (pe_tup (pa_cons (pe_byLowRa T.lowR hz hf (pv 2)) (pa_cons (pe_byLowRb T.lowR hz hf (pv 2)) pa_nil)))) rfl)) Ta.Hds.nil))
      (pss_one (ps_ret (pe_tup (pa_cons pe_str (pa_cons (pv 1) pa_nil)))))), ?_⟩
    refine ⟨_, rfl, t, rfl, lt, fun ls r h eg H' p s hT => ?_, fun i wd eb H8 dd s8 h8 => ?_⟩
    · refine ⟨_, rfl, by show 2 ≤ sizeLine; decide, fun u hu => ?_⟩
      exact kg ls r h eg _ u p (s.trans (same_new hu)) upd_same (hT.ks (same_new hu))
    · refine ⟨true, T.lowR.te, fun _ a0 ha0 => ?_, fun z => Bool.noConfusion z⟩
      refine ⟨_, rfl, .ref T.Wc, .ref T.Wc, true, dd, _, rfl, rfl, rfl, h8, fun u h => h, T.kRW, true, rfl, iteF ?_⟩
      refine ⟨_, rfl, .ref T.CB, .ref T.CB, false, dd, _, rfl, rfl, rfl, h8, fun u h => h, T.kRB, false, rfl, iteF ?_⟩
      refine ⟨_, rfl, rfl, rfl, dd, _, _, rfl, h8, by rfl, _, _, _, _, false, rfl, .ty "bool", .base (.int _), kit_ty (by decide +kernel), false, rfl, iteF ?_⟩
      refine ⟨_, rfl, rfl, rfl, dd, _, _, rfl, h8, by rfl, ?_⟩
      refine ⟨_, rfl, rfl, rfl, dd, _, _, rfl, h8, by rfl, by show 2 ≤ sizeLine; decide, fun u hu => ?_⟩
      exact kb i wd eb _ _ (s8.trans (same_new hu)) ⟨u, rfl, upd_same⟩
end
end K10

namespace K10
open PySem L2 Wm TL Dv De
section
variable {P : Program} {w : World} {K : PySem.W.Frag} {mg : Str → Option Value} {base : Heap}
theorem fine_lst {n : Nat} {ds : List PyData} (h : ∀ d ∈ ds, Fine n d) : Fine (n + 1) (.list ds) := by
  have q := fine_tup h
  have q1 := q.1
  have q2 := q.2
  simp only [PyData.canLay0] at q1
  simp only [PyData.depth] at q2
  exact ⟨by simp only [PyData.canLay0]; exact q1, by simp only [PyData.depth]; exact q2⟩
theorem fine_rules (i j : Int) : Fine 1 (.list [.int i, .int j]) := fine_lst (n := 0) fun d m => by
  simp only [List.mem_cons, List.not_mem_nil, or_false] at m
  rcases m with rfl | rfl
  · exact fine_int _
  · exact fine_int _
theorem numOk_is {t : Str} (h : numOk t = true) : IsNum t := @of_decide_eq_true _ (Classical.propDecidable _) h
theorem fine_bx {b : Bx} (h : IsNum b.1) (s : sortOk b.2 = true) : Fine 5 (bxD b) := fine_tup (n := 4) fun d m => by
  rcases List.mem_cons.mp m with rfl | m
  · obtain ⟨ds, N, e⟩ := h
    rw [e]
    exact fine_num fun d m => (N.dig d m).2
  · rw [List.mem_singleton.mp m]
    unfold sortOk at s
    rw [Bool.or_eq_true] at s
    rcases s with s | s
    · rw [of_decide_eq_true s]
      exact fine_str (by decide +kernel)
    · rw [of_decide_eq_true s]
      exact fine_str (by decide +kernel)
theorem loop_good {ls : List (List Bx)} (e : loopW ls = none) : loopsOk ls = true ∧ ∀ b ∈ ls.flatten, IsNum b.1 ∧ sortOk b.2 = true := by
  unfold loopW boxW at e
  cases c : loopsOk ls with
  | false => rw [if_pos c] at e; cases e
  | true =>
  rw [if_neg (by rw [c]; decide)] at e
  cases c1 : ls.flatten.all (fun b => numOk b.1) with
  | false => rw [if_pos c1] at e; cases e
  | true =>
  rw [if_neg (by rw [c1]; decide)] at e
  cases c2 : ls.flatten.all (fun b => sortOk b.2) with
  | false => rw [if_pos c2] at e; cases e
  | true => exact ⟨rfl, fun b m => ⟨numOk_is (List.all_eq_true.mp c1 b m), List.all_eq_true.mp c2 b m⟩⟩
theorem fine_town {ls : List (List Bx)} (G : ∀ b ∈ ls.flatten, IsNum b.1 ∧ sortOk b.2 = true) : Fine 7 (townD ls) := fine_tup (n := 6) fun d m => by
  obtain ⟨l, ml, rfl⟩ := List.mem_map.mp m
  exact fine_tup (n := 5) fun d m => by
    obtain ⟨b, mb, rfl⟩ := List.mem_map.mp m
    have g := G b (List.mem_flatten.mpr ⟨l, ml, mb⟩)
    exact fine_bx g.1 g.2
def wordsL : List Str := ["head", "loop", "loops", "number", "sort", "double", "rounds", "hear"]
theorem words_fine : ∀ w ∈ wordsL, w.cps.all (· < 0x110000) = true := by decide +kernel
theorem loop_word {ls : List (List Bx)} {w : Str} (e : loopW ls = some w) : w ∈ wordsL := by
  unfold loopW boxW at e
  split at e
  · cases e; decide +kernel
  split at e
  · cases e; decide +kernel
  split at e
  · cases e; decide +kernel
  split at e
  · cases e; decide +kernel
  cases e
theorem rule_word {r h : Int} {w : Str} (e : ruleW r h = some w) : w ∈ wordsL := by
  unfold ruleW at e
  split at e
  · split at e
    · cases e
    · cases e; decide +kernel
  · cases e; decide +kernel
theorem town_word {ls : List (List Bx)} {r h : Int} {w : Str} (e : townW ls r h = some w) : w ∈ wordsL := by
  unfold townW at e
  cases c : loopW ls with
  | some x =>
    rw [c] at e
    have e : some x = some w := e
    rw [← Option.some.inj e]
    exact loop_word c
  | none =>
    rw [c] at e
    exact rule_word e
theorem bad_word {t : Str} {i : Int} {w : Str} (e : readO t = .bad i w) : w ∈ wordsL := by
  unfold readO readW at e
  split at e
  · cases e; decide +kernel
  · split at e
    · cases e; decide +kernel
    · split at e
      · rename_i h
        cases e
        exact town_word h
      · cases e
theorem good_town {t : Str} {ls : List (List Bx)} {r h : Nat} (e : readO t = .good ls r h) : townW ls r h = none := by
  unfold readO readW at e
  split at e
  · cases e
  · split at e
    · cases e
    · split at e
      · cases e
      · rename_i h
        cases e
        exact h
theorem town_none {ls : List (List Bx)} {r h : Int} (e : townW ls r h = none) : loopW ls = none := by
  unfold townW at e
  cases c : loopW ls with
  | some x => rw [c] at e; cases e
  | none => rfl
theorem texts_of {n : Nat} : ∀ {ys : List V}, (∀ y ∈ ys, ∃ t : Str, y = .str t ∧ t.length ≤ n) → ∃ ts : List Str, ys = ts.map V.str ∧ ∀ t ∈ ts, t.length ≤ n
  | [], _ => ⟨[], rfl, fun t m => by cases m⟩
  | y :: ys, h => by
    obtain ⟨t, rfl, l⟩ := h y (by simp)
    obtain ⟨ts, rfl, a⟩ := texts_of (ys := ys) fun z m => h z (List.mem_cons_of_mem _ m)
    exact ⟨t :: ts, rfl, fun u m => (List.mem_cons.mp m).elim (fun e => e ▸ l) (a u)⟩
theorem passFN {X : Cx} : Passes (L2N.CX X.prog X.w) X (fun _ _ _ => False) := by
  intro pins σ H s e s' I h
  obtain ⟨_, _, _, _, _, _, _, _, _, _, _, _, z⟩ := h
  exact z.elim
theorem good_sz {ls : List (List Bx)} (ok : loopsOk ls = true) (G : ∀ b ∈ ls.flatten, IsNum b.1 ∧ sortOk b.2 = true) : Sz 30000 ls := by
  obtain ⟨b1, b2⟩ := loops_bnd ok
  refine ⟨by omega, fun l m => by have := b2 l m; omega, fun l m b mb => ?_⟩
  obtain ⟨⟨ds, N, e⟩, s⟩ := G b (List.mem_flatten.mpr ⟨l, m, mb⟩)
  constructor
  · rw [e, numS_len]
    have := N.len
    omega
  · unfold sortOk at s
    rw [Bool.or_eq_true] at s
    have l1 : ("plain" : Str).length ≤ 30000 := by decide +kernel
    have l2 : ("shy" : Str).length ≤ 30000 := by decide +kernel
    rcases s with s | s
    · rw [of_decide_eq_true s]
      exact l1
    · rw [of_decide_eq_true s]
      exact l2
end
end K10

namespace K10
open PySem L2 Wm TL Dv De
section
variable {P : Program} {w : World} {K : PySem.W.Frag} {mg : Str → Option Value} {base : Heap}
theorem ok_law (T : Txt K mg) : FnOk P w K mg base CX0 11 T.a_law T.d_law ["_law_script"] (sp_law K) := by
  refine T.F_law.ok sc_law (fun vs H Q E h => ?_) (fun cdv A outer s H vs Q E hr h => ?_)
  · obtain ⟨a, ns, rfl, _⟩ := h
    rfl
  · obtain ⟨a, ns, rfl, hs, ln, kk⟩ := h
    refine ⟨_, (pss_cons (ps_set (i := 1) sc_law.nd rfl (Or.inl rfl) (pe_call (ok_bag T) (hr.mono (by decide)) (by rfl) T.g_bag T.F_bag.kp T.b_bag .nil pass0 (pa_cons (pv 0) pa_nil)))
      (pss_cons (ps_set (i := 2) sc_law.nd rfl (Or.inl rfl) (pe_call (ok_loops T) (hr.mono (by decide)) (by rfl) T.g_loops T.F_loops.kp T.b_loops .nil pass0 (pa_cons (pv 1) pa_nil)))
      (pss_cons (ps_for PassesOwn.never rfl (pi_range1 (by rfl) T.z_range (pa_cons pe_int pa_nil)) (pg_name (i := 3) sc_law.nd rfl (Or.inl rfl))
        (pss_one (ps_set (i := 2) sc_law.nd rfl (Or.inl rfl) (pe_call (ok_box_fault T) (hr.mono (by decide)) (by rfl) T.g_box_fault T.F_box_fault.kp T.b_box_fault .nil pass0 (pa_cons (pv 1) (pa_cons (pv 2) pa_nil))))))
      (pss_cons (ps_set (i := 4) sc_law.nd rfl (Or.inl rfl) (pe_lst (pa_cons (pe_call (ok_head T) (hr.mono (by decide)) (by rfl) T.g_head T.F_head.kp T.b_head .nil pass0 (pa_cons (pv 1) pa_nil)) pa_nil)))
      (pss_cons (ps_for PassesOwn.never rfl (pi_list (pv 2)) (pg_name (i := 5) sc_law.nd rfl (Or.inl rfl))
        (pss_one (ps_expr (pe_bm PySem.F.plainAttrs_list PySem.F.slot_list_append PySem.F.type_list_append mt_append (pv 4) (pa_cons (pe_op op_add_str pe_str (pe_join pe_str (pe_lc (own := [("_law_box", 6)]) (g := gName 6) (tt := tYes) rfl sc_law.nd (pi_list (pv 5)) (blkOk_by (own := [("_law_box", 6)]) (N := nm_law) (sc := (defScope s_law)) (by decide +kernel)) (fun _ _ _ _ _ => pg_name (i := 6) sc_law.nd rfl (Or.inl rfl)) (fun _ _ _ _ _ => pts_nil) (fun _ _ _ _ _ => (pe_op op_add_str (pe_op op_add_str (pe_ix (show IxR _ (rIxL K) from ix_list) (pv 6) pe_int (fun _ _ => rfl)) pe_str) (pe_ix (show IxR _ (rIxL K) from ix_list) (pv 6) pe_int (fun _ _ => rfl))))))) pa_nil)))))
      (pss_cons (ps_set (i := 4) sc_law.nd rfl (Or.inl rfl) (pe_call (ok_row_fault T) (hr.mono (by decide)) (by rfl) T.g_row_fault T.F_row_fault.kp T.b_row_fault .nil pass0 (pa_cons (pv 1) (pa_cons (pv 4) pa_nil))))
      (pss_cons (ps_set (i := 7) sc_law.nd rfl (Or.inl rfl) (pe_join pe_str (pv 4)))
      (pss_cons (ps_set (i := 8) sc_law.nd rfl (Or.inl rfl) (pe_call (ok_due T) (hr.mono (by decide)) (by rfl) T.g_due T.F_due.kp T.b_due .nil pass0 (pa_cons (pv 7) pa_nil)))
      (pss_cons (ps_set (i := 9) sc_law.nd rfl (Or.inl rfl) (pe_call (ok_read T) (hr.mono (by decide)) (by rfl) T.g_read T.F_read.kp T.b_read .nil pass0 (pa_cons (pv 7) pa_nil)))
      (pss_cons (ps_if (pt_val (pe_callB call_isi (by rfl) T.z_isinstance (by decide +kernel) (pa_cons (pe_ix ix_tup (pv 8) pe_int (fun _ _ => rfl)) (pa_cons (pe_bltn (v := V.ty "str") (by rfl) T.z_str (by decide +kernel) rfl) pa_nil))))
        (pss_one (ps_ret (pe_and (pe_cmpR (op_eqD hr.units) (pv 9) (pv 8) (nomark _)) (pe_one (pe_cmpR (op_eqD hr.units) (pe_call (ok_read T) (hr.mono (by decide)) (by rfl) T.g_read T.F_read.kp T.b_read .nil pass0 (pa_cons (pv 7) pa_nil)) (pv 8) (nomark _))))))
        pss_nil)
      (pss_cons (ps_if (PW.pt (pw_or (pt_cmpR op_ne (pe_ix ix_tup (pv 9) pe_int (fun _ _ => rfl)) pe_str (nomark _)) (pw_or1 (pt_not (pt_val (pe_callB call_isi (by rfl) T.z_isinstance (by decide +kernel) (pa_cons (pe_ix ix_tup (pv 9) pe_int (fun _ _ => rfl)) (pa_cons (pe_glob (v := V.ref T.C) rfl T.gC rfl) pa_nil))))))))
        (pss_one (ps_ret pe_bl))
        pss_nil)
      (pss_cons (ps_set (i := 10) sc_law.nd rfl (Or.inl rfl) (pe_ix ix_tup (pv 8) pe_int (fun _ _ => rfl)))
      (pss_cons (ps_if (PW.pt (pw_or (pt_cmpR (op_neD hr.units) (pe_fld (pe_ix ix_tup (pv 9) pe_int (fun _ _ => rfl)) rfl) (pe_callTy call_tuple_of (by rfl) T.z_tuple (by decide +kernel) (pa_cons (pe_lc (own := [("_law_loop", 5)]) (g := gName 5) (tt := tYes) rfl sc_law.nd (pi_list (pe_ix ix_tup (pv 8) pe_int (fun _ _ => rfl))) (blkOk_by (own := [("_law_loop", 5)]) (N := nm_law) (sc := (defScope s_law)) (by decide +kernel)) (fun _ _ _ _ _ => pg_name (i := 5) sc_law.nd rfl (Or.inl rfl)) (fun _ _ _ _ _ => pts_nil) (fun _ _ _ _ _ => (pe_callTy (show CallR _ _ (Kx.rTupOf K) from call_tuple_of) (by rfl) T.z_tuple (by decide +kernel) (pa_cons (pv 5) pa_nil)))) pa_nil)) (nomark _)) (pw_or1 (pt_cmpR (op_neD hr.units) (pe_lst (pa_cons (pe_fld (pe_ix ix_tup (pv 9) pe_int (fun _ _ => rfl)) rfl) (pa_cons (pe_fld (pe_ix ix_tup (pv 9) pe_int (fun _ _ => rfl)) rfl) pa_nil))) (pv 10) (nomark _)))))
        (pss_one (ps_ret pe_bl))
        pss_nil)
      (pss_one (ps_ret (pe_cmpR (Ow.op_cmp (op := .Eq) (fun _ _ => rfl) T.aEq T.iEq ((ok_eq T).raw T.b_eq .nil) (hr.mono (by decide)) pass0) (pe_ix ix_tup (pv 9) pe_int (fun _ _ => rfl)) (pe_makeK T.mk_init (ok_init T) (hr.mono (by decide)) (by rfl) T.gC T.kb2 passFN (pa_cons (pe_ix ix_tup (pv 8) pe_int (fun _ _ => rfl)) pa_nil) (pk_cons (pe_ix ix_list (pv 10) pe_int (fun _ _ => rfl)) (pk_cons (pe_ix ix_list (pv 10) pe_int (fun _ _ => rfl)) pk_nil))) (nomark _))))))))))))))))), ?_⟩
    refine ⟨_, rfl, a, ns, rfl, hs, ln, fun H1 b s1 bag1 => ?_⟩
    refine ⟨_, rfl, b, 0, rfl, bag1, by decide, fun H2 v m gd2 bag2 m2 => ?_⟩
    refine ⟨_, rfl, by decide, by decide, ?_⟩
    refine for_range (fun i σ A => ∃ (v : V) (v3 : Option V) (m : Nat), σ = [some (.ref a), some (.ref b), some v, v3, none, none, none, none, none, none, none] ∧ GdL A v ∧ Bag A b m ∧ m ≤ 1000 + 10 * i) ⟨v, none, m, rfl, gd2, bag2, by omega⟩ (fun i σ A hi hP => ?_) (fun σ A hP => ?_)
    · obtain ⟨v, v3, m, rfl, gd, bag, hm⟩ := hP
      have hi : i < 2 := hi
      exact ⟨_, rfl, _, rfl, b, m, v, rfl, bag, by omega, gd, fun A1 v1 m1 gd1 bg1 le => ⟨_, _, m1, rfl, gd1, bg1, by omega⟩⟩
    clear bag2 gd2 m2
    obtain ⟨v, v3, m, rfl, gd, bag, hm⟩ := hP
    have hm : m ≤ 1020 := hm
    refine ⟨_, rfl, b, m, rfl, bag, by omega, fun A1 t0 m1 lt0 bg1 le1 bt1 => ⟨by show 1 ≤ sizeLine; decide, fun R hR => ?_⟩⟩
    have gd1 := gd.bt bag bt1
    have sR := same_new (o := .lst [.str t0]) hR
    have hR1 : upd A1 R (.lst [.str t0]) R = some (.lst (([t0] : List Str).map V.str)) := upd_same
    have bR := Lm.bag_off bg1 hR
    generalize upd A1 R (.lst [.str t0]) = A2 at *
    obtain ⟨q, xs, rfl, hq, x1, x4, rws⟩ := id gd1
    refine ⟨_, rfl, q, rfl, ⟨_, SqL.of (sR _ _ hq)⟩, ?_⟩
    refine for_list (xs := xs) (fun j σ A => ∃ (v5 : Option V) (ts : List Str), σ = [some (.ref a), some (.ref b), some (.ref q), v3, some (.ref R), v5, none, none, none, none, none] ∧ Same A1 A ∧ A R = some (.lst (ts.map V.str)) ∧ ts.length = j + 1 ∧ ∀ t ∈ ts, t.length ≤ 1000)
      ⟨none, [t0], rfl, sR, hR1, rfl, fun t m => by rw [List.mem_singleton.mp m]; omega⟩ (fun _ σ A _ h => let ⟨_, _, _, s, _⟩ := h; SqL.of (s _ _ hq)) (fun j x σ A hx hP => ?_) (fun σ A hP => ?_)
    · obtain ⟨v5, ts, rfl, sm, hr4, lts, small⟩ := hP
      obtain ⟨qr, ys, rfl, hqr, y1, y12, bxs⟩ := (rws x (List.mem_of_getElem? hx)).same sm
      have jl := (List.getElem?_eq_some_iff.mp hx).1
      refine ⟨_, rfl, .inl ⟨rfl, _, SqL.of hr4⟩, ?_⟩
      refine ⟨⟨_, rfl⟩, _, rfl, qr, rfl, ⟨_, SqL.of hqr⟩, fun D hD => ?_⟩
      refine Lm.lc_map (K := K) walk_list (fun i y _ => ∃ t : Str, y = .str t ∧ t.length ≤ 41) (fun _ _ _ _ h _ => h) hD (by omega) (fun H' s => SqL.of (s _ _ hqr)) (fun i x H' hi hx sm5 Q2 Z q2 => ?_) (fun A5 zs s5 hz lz hR5 => ?_)
      · obtain ⟨qb, s, t, rfl, hqb, ls, lt⟩ := (bxs x (List.mem_of_getElem? hx)).same sm5
        have sp1 : (" " : Str).length = 1 := by decide +kernel
        refine ⟨rfl, yesT ?_⟩
        refine ⟨_, rfl, qb, _, 0, _, rfl, rfl, SqL.of hqb, atI_nat (j := 0) rfl, _, _, rfl, rfl, small_len (by rw [sp1]; omega), ?_⟩
        refine ⟨_, rfl, qb, _, 1, _, rfl, rfl, SqL.of hqb, atI_nat (j := 1) rfl, _, _, rfl, rfl, small_len (by rw [str_len, sp1]; omega), ?_⟩
        exact q2 _ _ (Same.refl _) ⟨_, rfl, by rw [str_len, str_len, sp1]; omega⟩
      · obtain ⟨us, rfl, lus⟩ := texts_of fun y m => by
          obtain ⟨j, hj⟩ := List.mem_iff_getElem?.mp m
          exact hR5 j y hj
        have c2 : (", " : Str).length = 2 := by decide +kernel
        have l5 : ("loop " : Str).length = 5 := by decide +kernel
        have cost := sum_lens lus
        rw [List.length_map] at lz
        have lim : (us.map (·.length)).sum + us.length * (", " : Str).length ≤ 600 := by
          rw [c2]
          omega
        have lj := Nat.le_trans (join_len _ _) lim
        have hr5 := s5 _ _ hr4
        refine ⟨_, D, us, rfl, rfl, .inl (SqL.of hz), Nat.le_trans lim (by decide), ?_⟩
        refine ⟨_, _, rfl, rfl, small_len (by rw [l5]; omega), R, _, _, rfl, rfl, hr5, small_lt (by rw [List.length_map]; omega), ?_⟩
        refine ⟨_, ts ++ ["loop " ++ Txt.join ", " us], rfl, same_mut (sm.trans s5) hR, by rw [upd_same, List.map_append]; rfl, by rw [List.length_append, lts]; rfl, fun u m => ?_⟩
        rcases List.mem_append.mp m with m | m
        · exact small u m
        · rw [List.mem_singleton.mp m, str_len, l5]
          omega
    obtain ⟨v5, ts, rfl, sm, hr4, lts, small⟩ := hP
    have bg4 := bg1.keep sm
    have bR4 : R ≠ b := bR
    refine ⟨_, rfl, _, rfl, b, R, m1, ts, rfl, bg4, by omega, bR4, hr4, by omega, by omega, small, fun A5 q5 us hq5 l6 l3 => ?_⟩
    have nl : ("\n" : Str).length = 1 := by decide +kernel
    have cost := sum_lens l3
    have lim : (us.map (·.length)).sum + us.length * ("\n" : Str).length ≤ 20000 := by
      rw [nl]
      omega
    have lt := Nat.le_trans (join_len _ _) lim
    refine ⟨⟨_, rfl⟩, _, rfl, _, q5, us, rfl, rfl, .inl (SqL.of hq5), Nat.le_trans lim (by decide), ?_⟩
    generalize Txt.join "\n" us = text at *
    cases eR : readO text with
    | bad i wd =>
      refine ⟨_, rfl, text, rfl, lt, fun i' w' e A6 v6 s6 h6 => ?_, fun ls r h e => by rw [eR] at e; cases e⟩
      have e := eR.symm.trans e
      cases e
      refine ⟨_, rfl, text, rfl, lt, fun i' w' e A7 v7 s7 h7 => ?_, fun ls r h e => by rw [eR] at e; cases e⟩
      have e := eR.symm.trans e
      cases e
      obtain ⟨d1, rfl, h6⟩ := h6
      obtain ⟨d2, rfl, h7⟩ := h7
      have h6 := s7 _ _ h6
      refine ⟨_, rfl, d1, _, 1, _, rfl, rfl, SqT.of h6, atI_nat (j := 1) rfl, _, _, _, _, true, rfl, .ty "str", .base (.str _), kit_ty (by decide +kernel), true, rfl, iteT ?_⟩
      have fw : Fine 1 (.tuple [.int i, .str wd]) := fine_tup (n := 0) fun d m => by
        rcases List.mem_cons.mp m with rfl | m
        · exact fine_int _
        · rw [List.mem_singleton.mp m]
          exact fine_str (words_fine wd (bad_word eR))
      have dpw : ∀ {A : Hp} {d : Addr}, A d = some (.tup [.int i, .str wd]) → Dp K A (.ref d) (.tuple [.int i, .str wd]) := fun h => .tup (SqT.of h) (.cons (.int _) (.cons (.str _) .nil))
      refine ⟨_, rfl, _, rfl, _, _, dpw h7, dpw h6, fw.shaped (by decide), fw.shaped (by decide), true, by rw [fw.refl], iteT ?_⟩
      refine ⟨_, rfl, text, rfl, lt, fun i' w' e A8 v8 s8 h8 => ?_, fun ls r h e => by rw [eR] at e; cases e⟩
      have e := eR.symm.trans e
      cases e
      obtain ⟨d3, rfl, h8⟩ := h8
      refine ⟨_, rfl, _, _, dpw h8, dpw (s8 _ _ h6), fw.shaped (by decide), fw.shaped (by decide), ?_⟩
      rw [fw.refl]
      exact kk _
    | good ls r h =>
      have tn := good_town eR
      have ln := town_none tn
      obtain ⟨ok, G⟩ := loop_good ln
      have bnd := loops_bnd ok
      have fT := fine_town G
      have fi := fine_rules (r : Int) (h : Int)
      refine ⟨_, rfl, text, rfl, lt, fun i w e => (by rw [eR] at e; cases e), fun ls' r' h' e A6 v6 s6 h6 => ?_⟩
      have e := eR.symm.trans e
      cases e
      refine ⟨_, rfl, text, rfl, lt, fun i w e => (by rw [eR] at e; cases e), fun ls' r' h' e A7 q7 p7 s7 h7 hT => ?_⟩
      have e := eR.symm.trans e
      cases e
      obtain ⟨d1, pl, pr, rfl, h6, hL, hr6⟩ := h6
      have h6 := s7 _ _ h6
      have hL := hL.k s7
      have hr6 := s7 _ _ hr6
      clear s6 s7
      refine ⟨_, rfl, d1, _, 1, _, rfl, rfl, SqT.of h6, atI_nat (j := 1) rfl, _, _, _, _, false, rfl, .ty "str", .base (.lst hr6), kit_ty (by decide +kernel), false, rfl, iteF ?_⟩
      refine ⟨_, rfl, q7, _, 0, _, rfl, rfl, SqT.of h7, atI_nat (j := 0) rfl, rfl, _, rfl, iteN (by rfl) ?_⟩
      obtain ⟨dx, fs, y, y2, hp, l1, l2, l3, l4, l5, tt, tt2⟩ := id hT
      refine ⟨_, rfl, q7, _, 1, _, rfl, rfl, SqT.of h7, atI_nat (j := 1) rfl, _, _, _, _, true, rfl, .own T.C, .base (.ins hp T.clC T.isi.ca T.isi.cn T.isi.ct T.isi.cm), T.kS, true, rfl, iteF ?_⟩
      refine ⟨_, rfl, d1, _, 1, _, rfl, rfl, SqT.of h6, atI_nat (j := 1) rfl, ?_⟩
      refine ⟨_, rfl, q7, _, 1, _, rfl, rfl, SqT.of h7, atI_nat (j := 1) rfl, p7, T.C, dx, fs, _, rfl, hp, T.clC, T.nL, l1, ?_⟩
      obtain ⟨xs9, hx9, el9, ha9⟩ := id hL
      refine ⟨_, rfl, d1, _, 0, _, rfl, rfl, SqT.of h6, atI_nat (j := 0) rfl, pl, rfl, ⟨_, SqL.of hx9⟩, fun D hD => ?_⟩
      refine Lm.lc_map (K := K) walk_list (fun i y H' => ∃ d, (ls.map lpD)[i]? = some d ∧ Dt K H' y d) (fun _ _ _ _ ⟨d, e, t⟩ kt => ⟨d, e, t.k kt⟩) hD (by omega) (fun H' s => SqL.of (s _ _ hx9)) (fun i x H' hi hx2 sm2 Q2 Z q2 => ?_) (fun H8 ys s8 hy ly hR => ?_)
      · obtain ⟨l, hl, t⟩ := ha9 i x hx2
        have hd2 : (ls.map lpD)[i]? = some (lpD l) := by rw [List.getElem?_map, hl]; rfl
        obtain ⟨q1, zs, rfl, hq1, hz⟩ := t.k sm2
        refine ⟨rfl, yesT ?_⟩
        refine ⟨_, rfl, q1, zs, rfl, .inl ⟨SqL.of hq1, fun l2 hl2 => ?_⟩⟩
        exact q2 _ _ (same_new hl2) ⟨_, hd2, dt_tup upd_same (hz.k (Kt.new hl2))⟩
      have hds := dts_of (by rw [ly, el9, List.length_map]) hR
      refine ⟨D, ys, rfl, .inl ⟨SqL.of hy, fun lp hlp => ?_⟩⟩
      have sA := s8.trans (same_new (o := .tup ys) hlp)
      have hloops : Dt K (upd H8 lp (.tup ys)) (.ref lp) (townD ls) := dt_tup upd_same (hds.k (Kt.new hlp))
      generalize upd H8 lp (.tup ys) = A8 at *
      have fs' := fT.shaped (by decide)
      refine ⟨_, _, (tt.k (Kt.same sA)).toDp, hloops.toDp, fs', fs', _, rfl, iteN (by rw [fT.refl]; rfl) ?_⟩
      have h7' := sA _ _ h7
      have hp' := sA _ _ hp
      refine ⟨_, rfl, q7, _, 1, _, rfl, rfl, SqT.of h7', atI_nat (j := 1) rfl, p7, T.C, dx, fs, _, rfl, hp', T.clC, T.nR, l2, _, rfl, q7, _, 1, _, rfl, rfl, SqT.of h7', atI_nat (j := 1) rfl, p7, T.C, dx, fs, _, rfl, hp', T.clC, T.nH, l3, by show 2 ≤ sizeLine; decide, fun u1 hu1 => ?_⟩
      have sB := sA.trans (same_new (o := .lst [.int r, .int h]) hu1)
      have hu1' : upd A8 u1 (.lst [.int r, .int h]) u1 = some (.lst [.int r, .int h]) := upd_same
      generalize upd A8 u1 (.lst [.int r, .int h]) = B8 at *
      have hr8 := sB _ _ hr6
      refine ⟨_, rfl, .list [.int r, .int h], .list [.int r, .int h], .lst (SqL.of hu1') (.cons (.int _) (.cons (.int _) .nil)), .lst (SqL.of hr8) (.cons (.int _) (.cons (.int _) .nil)), fi.shaped (by decide), fi.shaped (by decide), _, rfl, iteN (by rw [fi.refl]; rfl) ?_⟩
      have h6' := sB _ _ h6
      have h7' := sB _ _ h7
      refine ⟨_, rfl, q7, _, 1, _, rfl, rfl, SqT.of h7', atI_nat (j := 1) rfl, ?_⟩
      refine ⟨_, rfl, d1, _, 0, _, rfl, rfl, SqT.of h6', atI_nat (j := 0) rfl, _, rfl, pr, _, 0, _, rfl, rfl, SqL.of hr8, atI_nat (j := 0) rfl, _, rfl, pr, _, 1, _, rfl, rfl, SqL.of hr8, atI_nat (j := 1) rfl, rfl, rfl, fun x9 dx9 hx9 hdx9 nx9 => ?_⟩
      have sX : Same B8 (upd (upd B8 dx9 (.own x9)) x9 (.ins T.C dx9 [])) := (same_new hdx9).trans (same_new (by rw [upd_ne (Ne.symm nx9)]; exact hx9))
      have sC := sB.trans sX
      refine ⟨x9, pl, dx9, ls, r, h, rfl, upd_same, hL.k sC, good_sz ok G, fun cn H9 off hT9 => ⟨rfl, ?_⟩, fun w e => by rw [tn] at e; cases e⟩
      have sD : Same B8 H9 := fun q o e => off q o (fun z => by rw [z, hx9] at e; cases e) (sX _ _ e)
      obtain ⟨dx8, fs8, z, z2, hp8, _⟩ := id hT9
      refine ⟨p7, dx, fs, .ref T.C, rfl, sD _ _ (sB _ _ hp), .base (.ins hp8 T.clC T.isi.ca T.isi.cn T.isi.ct T.isi.cm), T.sfC, p7, x9, ls, r, h, rfl, hT.ks (sB.trans sD), hT9, fs', fT.refl, kk _⟩
end
end K10

namespace K10
open PySem L2 Wm TL Dv PySem.W
theorem all_mk {l : PySem.W.OpenLaw} {w : World} {K : PySem.W.Frag} {h : Heap} {mg : Str → Option Value} {fa : Addr} (X : K.In h) (G : h.Ns mainGlobals mg) (hfa : mg "law" = some (.ref fa))
    {xC : Addr}
    (axC : PySem.W.nsIn K mainGlobals "Town" = some (some (.ref xC)))
    {x_is_whole : Addr} {od_is_whole an_is_whole : Option Addr} {sl_is_whole : Array (Option Value)} {oc_is_whole dc_is_whole pm_is_whole cd_is_whole ct_is_whole : Value}
    {kV_is_whole : Value}
    (a_is_whole : PySem.W.nsIn K mainGlobals "is_whole" = some (some (.ref x_is_whole)))
    (l_is_whole : K.lookup x_is_whole = some ⟨oc_is_whole, od_is_whole, .func (PySem.W.fnOf "is_whole" "is_whole" (defArgs s_is_whole) (defBody s_is_whole) (defScope s_is_whole) .none kV_is_whole dc_is_whole pm_is_whole an_is_whole cd_is_whole ct_is_whole), sl_is_whole⟩)
    (c_is_whole : PySem.W.codeIn K cd_is_whole "is_whole" = true)
    (k_is_whole : PySem.W.keepIn K (.ref x_is_whole) = true)
    {x_is_whole_within : Addr} {od_is_whole_within an_is_whole_within : Option Addr} {sl_is_whole_within : Array (Option Value)} {oc_is_whole_within dc_is_whole_within pm_is_whole_within cd_is_whole_within ct_is_whole_within : Value}
    {kV_is_whole_within : Value}
    (a_is_whole_within : PySem.W.nsIn K mainGlobals "is_whole_within" = some (some (.ref x_is_whole_within)))
    (l_is_whole_within : K.lookup x_is_whole_within = some ⟨oc_is_whole_within, od_is_whole_within, .func (PySem.W.fnOf "is_whole_within" "is_whole_within" (defArgs s_is_whole_within) (defBody s_is_whole_within) (defScope s_is_whole_within) .none kV_is_whole_within dc_is_whole_within pm_is_whole_within an_is_whole_within cd_is_whole_within ct_is_whole_within), sl_is_whole_within⟩)
    (c_is_whole_within : PySem.W.codeIn K cd_is_whole_within "is_whole_within" = true)
    (k_is_whole_within : PySem.W.keepIn K (.ref x_is_whole_within) = true)
    {x_is_sequence : Addr} {od_is_sequence an_is_sequence : Option Addr} {sl_is_sequence : Array (Option Value)} {oc_is_sequence dc_is_sequence pm_is_sequence cd_is_sequence ct_is_sequence : Value}
    {kV_is_sequence : Value}
    (a_is_sequence : PySem.W.nsIn K mainGlobals "is_sequence" = some (some (.ref x_is_sequence)))
    (l_is_sequence : K.lookup x_is_sequence = some ⟨oc_is_sequence, od_is_sequence, .func (PySem.W.fnOf "is_sequence" "is_sequence" (defArgs s_is_sequence) (defBody s_is_sequence) (defScope s_is_sequence) .none kV_is_sequence dc_is_sequence pm_is_sequence an_is_sequence cd_is_sequence ct_is_sequence), sl_is_sequence⟩)
    (c_is_sequence : PySem.W.codeIn K cd_is_sequence "is_sequence" = true)
    (k_is_sequence : PySem.W.keepIn K (.ref x_is_sequence) = true)
    {x_is_digit : Addr} {od_is_digit an_is_digit : Option Addr} {sl_is_digit : Array (Option Value)} {oc_is_digit dc_is_digit pm_is_digit cd_is_digit ct_is_digit : Value}
    {kV_is_digit : Value}
    (a_is_digit : PySem.W.nsIn K mainGlobals "is_digit" = some (some (.ref x_is_digit)))
    (l_is_digit : K.lookup x_is_digit = some ⟨oc_is_digit, od_is_digit, .func (PySem.W.fnOf "is_digit" "is_digit" (defArgs s_is_digit) (defBody s_is_digit) (defScope s_is_digit) .none kV_is_digit dc_is_digit pm_is_digit an_is_digit cd_is_digit ct_is_digit), sl_is_digit⟩)
    (c_is_digit : PySem.W.codeIn K cd_is_digit "is_digit" = true)
    (k_is_digit : PySem.W.keepIn K (.ref x_is_digit) = true)
    {x_is_number : Addr} {od_is_number an_is_number : Option Addr} {sl_is_number : Array (Option Value)} {oc_is_number dc_is_number pm_is_number cd_is_number ct_is_number : Value}
    {kV_is_number : Value}
    (a_is_number : PySem.W.nsIn K mainGlobals "is_number" = some (some (.ref x_is_number)))
    (l_is_number : K.lookup x_is_number = some ⟨oc_is_number, od_is_number, .func (PySem.W.fnOf "is_number" "is_number" (defArgs s_is_number) (defBody s_is_number) (defScope s_is_number) .none kV_is_number dc_is_number pm_is_number an_is_number cd_is_number ct_is_number), sl_is_number⟩)
    (c_is_number : PySem.W.codeIn K cd_is_number "is_number" = true)
    (k_is_number : PySem.W.keepIn K (.ref x_is_number) = true)
    {x_is_sort : Addr} {od_is_sort an_is_sort : Option Addr} {sl_is_sort : Array (Option Value)} {oc_is_sort dc_is_sort pm_is_sort cd_is_sort ct_is_sort : Value}
    {kV_is_sort : Value}
    (a_is_sort : PySem.W.nsIn K mainGlobals "is_sort" = some (some (.ref x_is_sort)))
    (l_is_sort : K.lookup x_is_sort = some ⟨oc_is_sort, od_is_sort, .func (PySem.W.fnOf "is_sort" "is_sort" (defArgs s_is_sort) (defBody s_is_sort) (defScope s_is_sort) .none kV_is_sort dc_is_sort pm_is_sort an_is_sort cd_is_sort ct_is_sort), sl_is_sort⟩)
    (c_is_sort : PySem.W.codeIn K cd_is_sort "is_sort" = true)
    (k_is_sort : PySem.W.keepIn K (.ref x_is_sort) = true)
    {x_has_double : Addr} {od_has_double an_has_double : Option Addr} {sl_has_double : Array (Option Value)} {oc_has_double dc_has_double pm_has_double cd_has_double ct_has_double : Value}
    {kV_has_double : Value}
    (a_has_double : PySem.W.nsIn K mainGlobals "has_double" = some (some (.ref x_has_double)))
    (l_has_double : K.lookup x_has_double = some ⟨oc_has_double, od_has_double, .func (PySem.W.fnOf "has_double" "has_double" (defArgs s_has_double) (defBody s_has_double) (defScope s_has_double) .none kV_has_double dc_has_double pm_has_double an_has_double cd_has_double ct_has_double), sl_has_double⟩)
    (c_has_double : PySem.W.codeIn K cd_has_double "has_double" = true)
    (k_has_double : PySem.W.keepIn K (.ref x_has_double) = true)
    {x_are_loops : Addr} {od_are_loops an_are_loops : Option Addr} {sl_are_loops : Array (Option Value)} {oc_are_loops dc_are_loops pm_are_loops cd_are_loops ct_are_loops : Value}
    {kV_are_loops : Value}
    (a_are_loops : PySem.W.nsIn K mainGlobals "are_loops" = some (some (.ref x_are_loops)))
    (l_are_loops : K.lookup x_are_loops = some ⟨oc_are_loops, od_are_loops, .func (PySem.W.fnOf "are_loops" "are_loops" (defArgs s_are_loops) (defBody s_are_loops) (defScope s_are_loops) .none kV_are_loops dc_are_loops pm_are_loops an_are_loops cd_are_loops ct_are_loops), sl_are_loops⟩)
    (c_are_loops : PySem.W.codeIn K cd_are_loops "are_loops" = true)
    (k_are_loops : PySem.W.keepIn K (.ref x_are_loops) = true)
    {x_check_boxes : Addr} {od_check_boxes an_check_boxes : Option Addr} {sl_check_boxes : Array (Option Value)} {oc_check_boxes dc_check_boxes pm_check_boxes cd_check_boxes ct_check_boxes : Value}
    {kV_check_boxes : Value}
    (a_check_boxes : PySem.W.nsIn K mainGlobals "check_boxes" = some (some (.ref x_check_boxes)))
    (l_check_boxes : K.lookup x_check_boxes = some ⟨oc_check_boxes, od_check_boxes, .func (PySem.W.fnOf "check_boxes" "check_boxes" (defArgs s_check_boxes) (defBody s_check_boxes) (defScope s_check_boxes) .none kV_check_boxes dc_check_boxes pm_check_boxes an_check_boxes cd_check_boxes ct_check_boxes), sl_check_boxes⟩)
    (c_check_boxes : PySem.W.codeIn K cd_check_boxes "check_boxes" = true)
    (k_check_boxes : PySem.W.keepIn K (.ref x_check_boxes) = true)
    {x_check_town : Addr} {od_check_town an_check_town : Option Addr} {sl_check_town : Array (Option Value)} {oc_check_town dc_check_town pm_check_town cd_check_town ct_check_town : Value}
    {kV_check_town : Value}
    (a_check_town : PySem.W.nsIn K mainGlobals "check_town" = some (some (.ref x_check_town)))
    (l_check_town : K.lookup x_check_town = some ⟨oc_check_town, od_check_town, .func (PySem.W.fnOf "check_town" "check_town" (defArgs s_check_town) (defBody s_check_town) (defScope s_check_town) .none kV_check_town dc_check_town pm_check_town an_check_town cd_check_town ct_check_town), sl_check_town⟩)
    (c_check_town : PySem.W.codeIn K cd_check_town "check_town" = true)
    (k_check_town : PySem.W.keepIn K (.ref x_check_town) = true)
    {x_init : Addr} {od_init an_init : Option Addr} {sl_init : Array (Option Value)} {oc_init dc_init pm_init cd_init ct_init : Value}
    {xD : Addr} {tD : Tok}
    (a_init : PySem.W.findIn K (.ref xC) "__init__" = some (some (.ref x_init)))
    (i_init : PySem.W.isFn K (.ref x_init) = true)
    (l_init : K.lookup x_init = some ⟨oc_init, od_init, .func (PySem.W.fnOf "__init__" "Town.__init__" (defArgs s_init) (defBody s_init) (defScope s_init) .none (.ref xD) dc_init pm_init an_init cd_init ct_init), sl_init⟩)
    (c_init : PySem.W.codeIn K cd_init "Town.__init__" = true)
    (k_init : PySem.W.keepIn K (.ref x_init) = true)
    (e_init : PySem.W.nsIn K xD "hear" = some (some (.int 1 tD)))
    {x_eq : Addr} {od_eq an_eq : Option Addr} {sl_eq : Array (Option Value)} {oc_eq dc_eq pm_eq cd_eq ct_eq : Value}
    {kV_eq : Value}
    (a_eq : PySem.W.findIn K (.ref xC) "__eq__" = some (some (.ref x_eq)))
    (i_eq : PySem.W.isFn K (.ref x_eq) = true)
    (l_eq : K.lookup x_eq = some ⟨oc_eq, od_eq, .func (PySem.W.fnOf "__eq__" "Town.__eq__" (defArgs s_eq) (defBody s_eq) (defScope s_eq) .none kV_eq dc_eq pm_eq an_eq cd_eq ct_eq), sl_eq⟩)
    (c_eq : PySem.W.codeIn K cd_eq "Town.__eq__" = true)
    (k_eq : PySem.W.keepIn K (.ref x_eq) = true)
    {x_first_row : Addr} {od_first_row an_first_row : Option Addr} {sl_first_row : Array (Option Value)} {oc_first_row dc_first_row pm_first_row cd_first_row ct_first_row : Value}
    {kV_first_row : Value}
    (a_first_row : PySem.W.nsIn K mainGlobals "first_row" = some (some (.ref x_first_row)))
    (l_first_row : K.lookup x_first_row = some ⟨oc_first_row, od_first_row, .func (PySem.W.fnOf "first_row" "first_row" (defArgs s_first_row) (defBody s_first_row) (defScope s_first_row) .none kV_first_row dc_first_row pm_first_row an_first_row cd_first_row ct_first_row), sl_first_row⟩)
    (c_first_row : PySem.W.codeIn K cd_first_row "first_row" = true)
    (k_first_row : PySem.W.keepIn K (.ref x_first_row) = true)
    {x_is_loop_too_much : Addr} {od_is_loop_too_much an_is_loop_too_much : Option Addr} {sl_is_loop_too_much : Array (Option Value)} {oc_is_loop_too_much dc_is_loop_too_much pm_is_loop_too_much cd_is_loop_too_much ct_is_loop_too_much : Value}
    {kV_is_loop_too_much : Value}
    (a_is_loop_too_much : PySem.W.nsIn K mainGlobals "is_loop_too_much" = some (some (.ref x_is_loop_too_much)))
    (l_is_loop_too_much : K.lookup x_is_loop_too_much = some ⟨oc_is_loop_too_much, od_is_loop_too_much, .func (PySem.W.fnOf "is_loop_too_much" "is_loop_too_much" (defArgs s_is_loop_too_much) (defBody s_is_loop_too_much) (defScope s_is_loop_too_much) .none kV_is_loop_too_much dc_is_loop_too_much pm_is_loop_too_much an_is_loop_too_much cd_is_loop_too_much ct_is_loop_too_much), sl_is_loop_too_much⟩)
    (c_is_loop_too_much : PySem.W.codeIn K cd_is_loop_too_much "is_loop_too_much" = true)
    (k_is_loop_too_much : PySem.W.keepIn K (.ref x_is_loop_too_much) = true)
    {x_has_double_up_to : Addr} {od_has_double_up_to an_has_double_up_to : Option Addr} {sl_has_double_up_to : Array (Option Value)} {oc_has_double_up_to dc_has_double_up_to pm_has_double_up_to cd_has_double_up_to ct_has_double_up_to : Value}
    {kV_has_double_up_to : Value}
    (a_has_double_up_to : PySem.W.nsIn K mainGlobals "has_double_up_to" = some (some (.ref x_has_double_up_to)))
    (l_has_double_up_to : K.lookup x_has_double_up_to = some ⟨oc_has_double_up_to, od_has_double_up_to, .func (PySem.W.fnOf "has_double_up_to" "has_double_up_to" (defArgs s_has_double_up_to) (defBody s_has_double_up_to) (defScope s_has_double_up_to) .none kV_has_double_up_to dc_has_double_up_to pm_has_double_up_to an_has_double_up_to cd_has_double_up_to ct_has_double_up_to), sl_has_double_up_to⟩)
    (c_has_double_up_to : PySem.W.codeIn K cd_has_double_up_to "has_double_up_to" = true)
    (k_has_double_up_to : PySem.W.keepIn K (.ref x_has_double_up_to) = true)
    {x_wrong_row : Addr} {od_wrong_row an_wrong_row : Option Addr} {sl_wrong_row : Array (Option Value)} {oc_wrong_row dc_wrong_row pm_wrong_row cd_wrong_row ct_wrong_row : Value}
    {kV_wrong_row : Value}
    (a_wrong_row : PySem.W.nsIn K mainGlobals "wrong_row" = some (some (.ref x_wrong_row)))
    (l_wrong_row : K.lookup x_wrong_row = some ⟨oc_wrong_row, od_wrong_row, .func (PySem.W.fnOf "wrong_row" "wrong_row" (defArgs s_wrong_row) (defBody s_wrong_row) (defScope s_wrong_row) .none kV_wrong_row dc_wrong_row pm_wrong_row an_wrong_row cd_wrong_row ct_wrong_row), sl_wrong_row⟩)
    (c_wrong_row : PySem.W.codeIn K cd_wrong_row "wrong_row" = true)
    (k_wrong_row : PySem.W.keepIn K (.ref x_wrong_row) = true)
    {x_read_head : Addr} {od_read_head an_read_head : Option Addr} {sl_read_head : Array (Option Value)} {oc_read_head dc_read_head pm_read_head cd_read_head ct_read_head : Value}
    {kV_read_head : Value}
    (a_read_head : PySem.W.nsIn K mainGlobals "read_head" = some (some (.ref x_read_head)))
    (l_read_head : K.lookup x_read_head = some ⟨oc_read_head, od_read_head, .func (PySem.W.fnOf "read_head" "read_head" (defArgs s_read_head) (defBody s_read_head) (defScope s_read_head) .none kV_read_head dc_read_head pm_read_head an_read_head cd_read_head ct_read_head), sl_read_head⟩)
    (c_read_head : PySem.W.codeIn K cd_read_head "read_head" = true)
    (k_read_head : PySem.W.keepIn K (.ref x_read_head) = true)
    {x_read_loop : Addr} {od_read_loop an_read_loop : Option Addr} {sl_read_loop : Array (Option Value)} {oc_read_loop dc_read_loop pm_read_loop cd_read_loop ct_read_loop : Value}
    {kV_read_loop : Value}
    (a_read_loop : PySem.W.nsIn K mainGlobals "read_loop" = some (some (.ref x_read_loop)))
    (l_read_loop : K.lookup x_read_loop = some ⟨oc_read_loop, od_read_loop, .func (PySem.W.fnOf "read_loop" "read_loop" (defArgs s_read_loop) (defBody s_read_loop) (defScope s_read_loop) .none kV_read_loop dc_read_loop pm_read_loop an_read_loop cd_read_loop ct_read_loop), sl_read_loop⟩)
    (c_read_loop : PySem.W.codeIn K cd_read_loop "read_loop" = true)
    (k_read_loop : PySem.W.keepIn K (.ref x_read_loop) = true)
    {x_read_town : Addr} {od_read_town an_read_town : Option Addr} {sl_read_town : Array (Option Value)} {oc_read_town dc_read_town pm_read_town cd_read_town ct_read_town : Value}
    {kV_read_town : Value}
    (a_read_town : PySem.W.nsIn K mainGlobals "read_town" = some (some (.ref x_read_town)))
    (l_read_town : K.lookup x_read_town = some ⟨oc_read_town, od_read_town, .func (PySem.W.fnOf "read_town" "read_town" (defArgs s_read_town) (defBody s_read_town) (defScope s_read_town) .none kV_read_town dc_read_town pm_read_town an_read_town cd_read_town ct_read_town), sl_read_town⟩)
    (c_read_town : PySem.W.codeIn K cd_read_town "read_town" = true)
    (k_read_town : PySem.W.keepIn K (.ref x_read_town) = true)
    {x_bag : Addr} {od_bag an_bag : Option Addr} {sl_bag : Array (Option Value)} {oc_bag dc_bag pm_bag cd_bag ct_bag : Value}
    {kV_bag : Value}
    (a_bag : PySem.W.nsIn K mainGlobals "_law_bag" = some (some (.ref x_bag)))
    (l_bag : K.lookup x_bag = some ⟨oc_bag, od_bag, .func (PySem.W.fnOf "_law_bag" "_law_bag" (defArgs s_bag) (defBody s_bag) (defScope s_bag) .none kV_bag dc_bag pm_bag an_bag cd_bag ct_bag), sl_bag⟩)
    (c_bag : PySem.W.codeIn K cd_bag "_law_bag" = true)
    (k_bag : PySem.W.keepIn K (.ref x_bag) = true)
    {x_draw : Addr} {od_draw an_draw : Option Addr} {sl_draw : Array (Option Value)} {oc_draw dc_draw pm_draw cd_draw ct_draw : Value}
    {kV_draw : Value}
    (a_draw : PySem.W.nsIn K mainGlobals "_law_draw" = some (some (.ref x_draw)))
    (l_draw : K.lookup x_draw = some ⟨oc_draw, od_draw, .func (PySem.W.fnOf "_law_draw" "_law_draw" (defArgs s_draw) (defBody s_draw) (defScope s_draw) .none kV_draw dc_draw pm_draw an_draw cd_draw ct_draw), sl_draw⟩)
    (c_draw : PySem.W.codeIn K cd_draw "_law_draw" = true)
    (k_draw : PySem.W.keepIn K (.ref x_draw) = true)
    {x_number : Addr} {od_number an_number : Option Addr} {sl_number : Array (Option Value)} {oc_number dc_number pm_number cd_number ct_number : Value}
    {kV_number : Value}
    (a_number : PySem.W.nsIn K mainGlobals "_law_number" = some (some (.ref x_number)))
    (l_number : K.lookup x_number = some ⟨oc_number, od_number, .func (PySem.W.fnOf "_law_number" "_law_number" (defArgs s_number) (defBody s_number) (defScope s_number) .none kV_number dc_number pm_number an_number cd_number ct_number), sl_number⟩)
    (c_number : PySem.W.codeIn K cd_number "_law_number" = true)
    (k_number : PySem.W.keepIn K (.ref x_number) = true)
    {x_numbers : Addr} {od_numbers an_numbers : Option Addr} {sl_numbers : Array (Option Value)} {oc_numbers dc_numbers pm_numbers cd_numbers ct_numbers : Value}
    {kV_numbers : Value}
    (a_numbers : PySem.W.nsIn K mainGlobals "_law_numbers" = some (some (.ref x_numbers)))
    (l_numbers : K.lookup x_numbers = some ⟨oc_numbers, od_numbers, .func (PySem.W.fnOf "_law_numbers" "_law_numbers" (defArgs s_numbers) (defBody s_numbers) (defScope s_numbers) .none kV_numbers dc_numbers pm_numbers an_numbers cd_numbers ct_numbers), sl_numbers⟩)
    (c_numbers : PySem.W.codeIn K cd_numbers "_law_numbers" = true)
    (k_numbers : PySem.W.keepIn K (.ref x_numbers) = true)
    {x_pairs : Addr} {od_pairs an_pairs : Option Addr} {sl_pairs : Array (Option Value)} {oc_pairs dc_pairs pm_pairs cd_pairs ct_pairs : Value}
    {kV_pairs : Value}
    (a_pairs : PySem.W.nsIn K mainGlobals "_law_pairs" = some (some (.ref x_pairs)))
    (l_pairs : K.lookup x_pairs = some ⟨oc_pairs, od_pairs, .func (PySem.W.fnOf "_law_pairs" "_law_pairs" (defArgs s_pairs) (defBody s_pairs) (defScope s_pairs) .none kV_pairs dc_pairs pm_pairs an_pairs cd_pairs ct_pairs), sl_pairs⟩)
    (c_pairs : PySem.W.codeIn K cd_pairs "_law_pairs" = true)
    (k_pairs : PySem.W.keepIn K (.ref x_pairs) = true)
    {x_loops : Addr} {od_loops an_loops : Option Addr} {sl_loops : Array (Option Value)} {oc_loops dc_loops pm_loops cd_loops ct_loops : Value}
    {kV_loops : Value}
    (a_loops : PySem.W.nsIn K mainGlobals "_law_loops" = some (some (.ref x_loops)))
    (l_loops : K.lookup x_loops = some ⟨oc_loops, od_loops, .func (PySem.W.fnOf "_law_loops" "_law_loops" (defArgs s_loops) (defBody s_loops) (defScope s_loops) .none kV_loops dc_loops pm_loops an_loops cd_loops ct_loops), sl_loops⟩)
    (c_loops : PySem.W.codeIn K cd_loops "_law_loops" = true)
    (k_loops : PySem.W.keepIn K (.ref x_loops) = true)
    {x_box_fault : Addr} {od_box_fault an_box_fault : Option Addr} {sl_box_fault : Array (Option Value)} {oc_box_fault dc_box_fault pm_box_fault cd_box_fault ct_box_fault : Value}
    {kV_box_fault : Value}
    (a_box_fault : PySem.W.nsIn K mainGlobals "_law_box_fault" = some (some (.ref x_box_fault)))
    (l_box_fault : K.lookup x_box_fault = some ⟨oc_box_fault, od_box_fault, .func (PySem.W.fnOf "_law_box_fault" "_law_box_fault" (defArgs s_box_fault) (defBody s_box_fault) (defScope s_box_fault) .none kV_box_fault dc_box_fault pm_box_fault an_box_fault cd_box_fault ct_box_fault), sl_box_fault⟩)
    (c_box_fault : PySem.W.codeIn K cd_box_fault "_law_box_fault" = true)
    (k_box_fault : PySem.W.keepIn K (.ref x_box_fault) = true)
    {x_head : Addr} {od_head an_head : Option Addr} {sl_head : Array (Option Value)} {oc_head dc_head pm_head cd_head ct_head : Value}
    {kV_head : Value}
    (a_head : PySem.W.nsIn K mainGlobals "_law_head" = some (some (.ref x_head)))
    (l_head : K.lookup x_head = some ⟨oc_head, od_head, .func (PySem.W.fnOf "_law_head" "_law_head" (defArgs s_head) (defBody s_head) (defScope s_head) .none kV_head dc_head pm_head an_head cd_head ct_head), sl_head⟩)
    (c_head : PySem.W.codeIn K cd_head "_law_head" = true)
    (k_head : PySem.W.keepIn K (.ref x_head) = true)
    {x_row_fault : Addr} {od_row_fault an_row_fault : Option Addr} {sl_row_fault : Array (Option Value)} {oc_row_fault dc_row_fault pm_row_fault cd_row_fault ct_row_fault : Value}
    {kV_row_fault : Value}
    (a_row_fault : PySem.W.nsIn K mainGlobals "_law_row_fault" = some (some (.ref x_row_fault)))
    (l_row_fault : K.lookup x_row_fault = some ⟨oc_row_fault, od_row_fault, .func (PySem.W.fnOf "_law_row_fault" "_law_row_fault" (defArgs s_row_fault) (defBody s_row_fault) (defScope s_row_fault) .none kV_row_fault dc_row_fault pm_row_fault an_row_fault cd_row_fault ct_row_fault), sl_row_fault⟩)
    (c_row_fault : PySem.W.codeIn K cd_row_fault "_law_row_fault" = true)
    (k_row_fault : PySem.W.keepIn K (.ref x_row_fault) = true)
    {x_pieces : Addr} {od_pieces an_pieces : Option Addr} {sl_pieces : Array (Option Value)} {oc_pieces dc_pieces pm_pieces cd_pieces ct_pieces : Value}
    {kV_pieces : Value}
    (a_pieces : PySem.W.nsIn K mainGlobals "_law_pieces" = some (some (.ref x_pieces)))
    (l_pieces : K.lookup x_pieces = some ⟨oc_pieces, od_pieces, .func (PySem.W.fnOf "_law_pieces" "_law_pieces" (defArgs s_pieces) (defBody s_pieces) (defScope s_pieces) .none kV_pieces dc_pieces pm_pieces an_pieces cd_pieces ct_pieces), sl_pieces⟩)
    (c_pieces : PySem.W.codeIn K cd_pieces "_law_pieces" = true)
    (k_pieces : PySem.W.keepIn K (.ref x_pieces) = true)
    {x_lis_number : Addr} {od_lis_number an_lis_number : Option Addr} {sl_lis_number : Array (Option Value)} {oc_lis_number dc_lis_number pm_lis_number cd_lis_number ct_lis_number : Value}
    {kV_lis_number : Value}
    (a_lis_number : PySem.W.nsIn K mainGlobals "_law_is_number" = some (some (.ref x_lis_number)))
    (l_lis_number : K.lookup x_lis_number = some ⟨oc_lis_number, od_lis_number, .func (PySem.W.fnOf "_law_is_number" "_law_is_number" (defArgs s_lis_number) (defBody s_lis_number) (defScope s_lis_number) .none kV_lis_number dc_lis_number pm_lis_number an_lis_number cd_lis_number ct_lis_number), sl_lis_number⟩)
    (c_lis_number : PySem.W.codeIn K cd_lis_number "_law_is_number" = true)
    (k_lis_number : PySem.W.keepIn K (.ref x_lis_number) = true)
    {x_first : Addr} {od_first an_first : Option Addr} {sl_first : Array (Option Value)} {oc_first dc_first pm_first cd_first ct_first : Value}
    {kV_first : Value}
    (a_first : PySem.W.nsIn K mainGlobals "_law_first" = some (some (.ref x_first)))
    (l_first : K.lookup x_first = some ⟨oc_first, od_first, .func (PySem.W.fnOf "_law_first" "_law_first" (defArgs s_first) (defBody s_first) (defScope s_first) .none kV_first dc_first pm_first an_first cd_first ct_first), sl_first⟩)
    (c_first : PySem.W.codeIn K cd_first "_law_first" = true)
    (k_first : PySem.W.keepIn K (.ref x_first) = true)
    {x_due : Addr} {od_due an_due : Option Addr} {sl_due : Array (Option Value)} {oc_due dc_due pm_due cd_due ct_due : Value}
    {kV_due : Value}
    (a_due : PySem.W.nsIn K mainGlobals "_law_due" = some (some (.ref x_due)))
    (l_due : K.lookup x_due = some ⟨oc_due, od_due, .func (PySem.W.fnOf "_law_due" "_law_due" (defArgs s_due) (defBody s_due) (defScope s_due) .none kV_due dc_due pm_due an_due cd_due ct_due), sl_due⟩)
    (c_due : PySem.W.codeIn K cd_due "_law_due" = true)
    (k_due : PySem.W.keepIn K (.ref x_due) = true)
    {x_read : Addr} {od_read an_read : Option Addr} {sl_read : Array (Option Value)} {oc_read dc_read pm_read cd_read ct_read : Value}
    {kV_read : Value}
    (a_read : PySem.W.nsIn K mainGlobals "_law_read" = some (some (.ref x_read)))
    (l_read : K.lookup x_read = some ⟨oc_read, od_read, .func (PySem.W.fnOf "_law_read" "_law_read" (defArgs s_read) (defBody s_read) (defScope s_read) .none kV_read dc_read pm_read an_read cd_read ct_read), sl_read⟩)
    (c_read : PySem.W.codeIn K cd_read "_law_read" = true)
    (k_read : PySem.W.keepIn K (.ref x_read) = true)
    {x_law : Addr} {od_law an_law : Option Addr} {sl_law : Array (Option Value)} {oc_law dc_law pm_law cd_law ct_law : Value}
    {kV_law : Value}
    (a_law : PySem.W.nsIn K mainGlobals "law" = some (some (.ref x_law)))
    (l_law : K.lookup x_law = some ⟨oc_law, od_law, .func (PySem.W.fnOf "law" "law" (defArgs s_law) (defBody s_law) (defScope s_law) .none kV_law dc_law pm_law an_law cd_law ct_law), sl_law⟩)
    (c_law : PySem.W.codeIn K cd_law "law" = true)
    (k_law : PySem.W.keepIn K (.ref x_law) = true)
    (pg : PySem.W.plainGet K xC Str.empty = true)
    (hd : PySem.W.hasDictIn K xC = true)
    (po : PySem.W.plainOver K xC = true)
    (sa : PySem.W.findIn K (.ref xC) "__setattr__" = some (some (.builtin "object.__setattr__")))
    (mk : PySem.W.makesIn K xC = true)
    (kc : PySem.W.keepIn K (.ref xC) = true)
    (nL : PySem.W.findIn K (.ref xC) "loops" = some none)
    (nR : PySem.W.findIn K (.ref xC) "rounds" = some none)
    (nH : PySem.W.findIn K (.ref xC) "hear" = some none)
    (nN : PySem.W.findIn K (.ref xC) "numbers" = some none)
    (ica : PySem.W.findIn K (.ref xC) "__class__" = some (some (.builtin "object.__class__")))
    (icn : PySem.W.specialIn K (.builtin "object.__class__") "__get__" = some (some (.builtin "getset_descriptor.__get__")))
    (ict : PySem.W.takesIn K (.builtin "object.__class__") = some true)
    (icm : PySem.W.mroIn K xC (.type "object") = some true)
    (kS : PySem.W.kitOne K (.ref xC) (.ref xC) = some true)
    (rd : PySem.W.readsIn K xC (.type "type") = true)
    (ga : PySem.W.specialIn K (.ref xC) "__getattribute__" = some (some (.builtin "type.__getattribute__")))
    {tP tS : Tok}
    (vP : PySem.W.findCls K (.ref xC) (.type "type") "PLAIN" = some (.val (.str "plain" tP)))
    (vS : PySem.W.findCls K (.ref xC) (.type "type") "SHY" = some (.val (.str "shy" tS)))
    {eCB eIB : Addr} {enmB eqB : Str} {eNB : Addr} {ebsB ebmB : List Value} {esnB : List Str} {esubB : List Value} {eabB : Bool} {ecolB : Option Bool} {eddB : Option Addr} {em0B em1B em2B em3B em5B : Option Value}
    {eocB edcB epmB ecdB ectB : Value} {eodB eanB : Option Addr} {eslB : Array (Option Value)} {ep1B ep2B eq1B eq2B eq3B eq4B : Pos}
    (e_aB : PySem.W.nsIn K mainGlobals "BadTown" = some (some (.ref eCB)))
    (e_xB : K.lookup eCB = some (excClassObj enmB eqB eCB eNB ebsB ebmB true esnB esubB eabB ecolB eddB em0B em1B em2B em3B em5B "ValueError.__new__"))
    (e_bB : PySem.HandSPX.refsVE ebmB = true)
    (e_sB : PySem.W.findIn K (.ref eCB) "__setattr__" = some (some (.builtin "object.__setattr__"))) (e_gB : PySem.W.findIn K (.ref eCB) "__getattribute__" = some (some (.builtin "BaseException.__getattribute__"))) (e_hB : PySem.W.findIn K (.ref eCB) "__getattr__" = some none) (e_nB : PySem.W.findIn K (.ref eCB) "what" = some none)
    (e_iB : PySem.W.findIn K (.ref eCB) "__init__" = some (some (.ref eIB))) (e_tB : PySem.W.typeIn K (.ref eIB) = some (.type "function"))
    (e_lB : K.lookup eIB = some ⟨eocB, eodB, .func (PySem.W.fnOf "__init__" "BadTown.__init__" (PySem.LowB.iA ep1B ep2B) (PySem.LowB.iB eq1B eq2B eq3B eq4B) PySem.LowB.iS .none .none edcB epmB eanB ecdB ectB), eslB⟩) (e_cB : PySem.W.codeIn K ecdB "BadTown.__init__" = true)
    (e_kB : PySem.W.keepIn K (.ref eCB) = true) (e_eB : PySem.W.subIn K (.ref eCB) (.type "BaseException") = some true) (e_tyB : PySem.W.typeIn K (.ref eCB) = some (.type "type")) (e_dB : PySem.W.hasDictIn K eCB = true) (e_scB : PySem.W.subIn K (.ref eCB) (.ref eCB) = some true)
    {eCR eIR : Addr} {enmR eqR : Str} {eNR : Addr} {ebsR ebmR : List Value} {esnR : List Str} {esubR : List Value} {eabR : Bool} {ecolR : Option Bool} {eddR : Option Addr} {em0R em1R em2R em3R em5R : Option Value}
    {eocR edcR epmR ecdR ectR : Value} {eodR eanR : Option Addr} {eslR : Array (Option Value)} {ep1R ep2R ep3R eq1R eq2R eq3R eq4R eq5R eq6R eq7R eq8R : Pos}
    (e_aR : PySem.W.nsIn K mainGlobals "BadRow" = some (some (.ref eCR)))
    (e_xR : K.lookup eCR = some (excClassObj enmR eqR eCR eNR ebsR ebmR true esnR esubR eabR ecolR eddR em0R em1R em2R em3R em5R "ValueError.__new__"))
    (e_bR : PySem.HandSPX.refsVE ebmR = true)
    (e_sR : PySem.W.findIn K (.ref eCR) "__setattr__" = some (some (.builtin "object.__setattr__"))) (e_gR : PySem.W.findIn K (.ref eCR) "__getattribute__" = some (some (.builtin "BaseException.__getattribute__"))) (e_hR : PySem.W.findIn K (.ref eCR) "__getattr__" = some none) (e_nR : PySem.W.findIn K (.ref eCR) "row" = some none)
    (e_mR : PySem.W.findIn K (.ref eCR) "what" = some none)
    (e_iR : PySem.W.findIn K (.ref eCR) "__init__" = some (some (.ref eIR))) (e_tR : PySem.W.typeIn K (.ref eIR) = some (.type "function"))
    (e_lR : K.lookup eIR = some ⟨eocR, eodR, .func (PySem.W.fnOf "__init__" "BadRow.__init__" (PySem.LowR.iA ep1R ep2R ep3R) (PySem.LowR.iB eq1R eq2R eq3R eq4R eq5R eq6R eq7R eq8R) PySem.LowR.iS .none .none edcR epmR eanR ecdR ectR), eslR⟩) (e_cR : PySem.W.codeIn K ecdR "BadRow.__init__" = true)
    (e_kR : PySem.W.keepIn K (.ref eCR) = true) (e_eR : PySem.W.subIn K (.ref eCR) (.type "BaseException") = some true) (e_tyR : PySem.W.typeIn K (.ref eCR) = some (.type "type")) (e_dR : PySem.W.hasDictIn K eCR = true) (e_scR : PySem.W.subIn K (.ref eCR) (.ref eCR) = some true)
    {eW : Addr}
    (e_w : PySem.W.nsIn K mainGlobals "WheelError" = some (some (.ref eW)))
    (krw : PySem.W.kitOne K (.ref eCR) (.ref eW) = some true)
    (krb : PySem.W.kitOne K (.ref eCR) (.ref eCB) = some false)
    (e_icR : PySem.W.isClsIn K eCR = true)
    (e_haR : PySem.W.findIn K (.ref eCR) "__class__" = some (some (.builtin "object.__class__")))
    (e_hmR : PySem.W.mroIn K eCR (.type "object") = some true)
    {t_DIGITS : Tok}
    (n_DIGITS : PySem.W.nsIn K mainGlobals "DIGITS" = some (some (.str "123456789" t_DIGITS)))
    {t_MOST_DIGITS : Tok}
    (n_MOST_DIGITS : PySem.W.nsIn K mainGlobals "MOST_DIGITS" = some (some (.int 4 t_MOST_DIGITS)))
    {t_GREATEST_SUM : Tok}
    (n_GREATEST_SUM : PySem.W.nsIn K mainGlobals "GREATEST_SUM" = some (some (.int 24 t_GREATEST_SUM)))
    {t_MOST_LOOPS : Tok}
    (n_MOST_LOOPS : PySem.W.nsIn K mainGlobals "MOST_LOOPS" = some (some (.int 3 t_MOST_LOOPS)))
    {t_MOST_BOXES : Tok}
    (n_MOST_BOXES : PySem.W.nsIn K mainGlobals "MOST_BOXES" = some (some (.int 10 t_MOST_BOXES)))
    {t_MOST_ROUNDS : Tok}
    (n_MOST_ROUNDS : PySem.W.nsIn K mainGlobals "MOST_ROUNDS" = some (some (.int 8 t_MOST_ROUNDS)))
    {t_LOOP_HEAD : Tok}
    (n_LOOP_HEAD : PySem.W.nsIn K mainGlobals "LOOP_HEAD" = some (some (.str "loop " t_LOOP_HEAD)))
    (z_all : PySem.W.nsIn K mainGlobals "all" = some none)
    (z_bool : PySem.W.nsIn K mainGlobals "bool" = some none)
    (z_enumerate : PySem.W.nsIn K mainGlobals "enumerate" = some none)
    (z_int : PySem.W.nsIn K mainGlobals "int" = some none)
    (z_isinstance : PySem.W.nsIn K mainGlobals "isinstance" = some none)
    (z_len : PySem.W.nsIn K mainGlobals "len" = some none)
    (z_list : PySem.W.nsIn K mainGlobals "list" = some none)
    (z_min : PySem.W.nsIn K mainGlobals "min" = some none)
    (z_range : PySem.W.nsIn K mainGlobals "range" = some none)
    (z_set : PySem.W.nsIn K mainGlobals "set" = some none)
    (z_str : PySem.W.nsIn K mainGlobals "str" = some none)
    (z_sum : PySem.W.nsIn K mainGlobals "sum" = some none)
    (z_tuple : PySem.W.nsIn K mainGlobals "tuple" = some none)
    : ∃ fd : FuncData, (∀ (s : Shared) (v : Value), BindsTo s fd ⟨[v], []⟩ [("_law_script", v)]) ∧ ∀ base : Heap, K.In base → base.Ns mainGlobals mg → FnOk l.prog w K mg base CX0 11 fa fd ["_law_script"] (sp_law K) := by
  have e := hfa.symm.trans (PySem.W.mg_of X G a_law)
  cases e
  have F_is_whole := fun_mk (st := s_is_whole) l_is_whole c_is_whole k_is_whole
  have b_is_whole := F_is_whole.binds (ps := ["thing"]) fun _ _ _ _ _ _ us hl => match us, hl with | [_], _ => rfl
  have F_is_whole_within := fun_mk (st := s_is_whole_within) l_is_whole_within c_is_whole_within k_is_whole_within
  have b_is_whole_within := F_is_whole_within.binds (ps := ["thing", "low", "high"]) fun _ _ _ _ _ _ us hl => match us, hl with | [_, _, _], _ => rfl
  have F_is_sequence := fun_mk (st := s_is_sequence) l_is_sequence c_is_sequence k_is_sequence
  have b_is_sequence := F_is_sequence.binds (ps := ["thing"]) fun _ _ _ _ _ _ us hl => match us, hl with | [_], _ => rfl
  have F_is_digit := fun_mk (st := s_is_digit) l_is_digit c_is_digit k_is_digit
  have b_is_digit := F_is_digit.binds (ps := ["word"]) fun _ _ _ _ _ _ us hl => match us, hl with | [_], _ => rfl
  have F_is_number := fun_mk (st := s_is_number) l_is_number c_is_number k_is_number
  have b_is_number := F_is_number.binds (ps := ["thing"]) fun _ _ _ _ _ _ us hl => match us, hl with | [_], _ => rfl
  have F_is_sort := fun_mk (st := s_is_sort) l_is_sort c_is_sort k_is_sort
  have b_is_sort := F_is_sort.binds (ps := ["thing"]) fun _ _ _ _ _ _ us hl => match us, hl with | [_], _ => rfl
  have F_has_double := fun_mk (st := s_has_double) l_has_double c_has_double k_has_double
  have b_has_double := F_has_double.binds (ps := ["boxes"]) fun _ _ _ _ _ _ us hl => match us, hl with | [_], _ => rfl
  have F_are_loops := fun_mk (st := s_are_loops) l_are_loops c_are_loops k_are_loops
  have b_are_loops := F_are_loops.binds (ps := ["thing"]) fun _ _ _ _ _ _ us hl => match us, hl with | [_], _ => rfl
  have F_check_boxes := fun_mk (st := s_check_boxes) l_check_boxes c_check_boxes k_check_boxes
  have b_check_boxes := F_check_boxes.binds (ps := ["boxes"]) fun _ _ _ _ _ _ us hl => match us, hl with | [_], _ => rfl
  have F_check_town := fun_mk (st := s_check_town) l_check_town c_check_town k_check_town
  have b_check_town := F_check_town.binds (ps := ["loops", "rounds", "hear"]) fun _ _ _ _ _ _ us hl => match us, hl with | [_, _, _], _ => rfl
  have F_init : FunD K "__init__" "Town.__init__" (defArgs s_init) (defBody s_init) (defScope s_init) [] [("hear", V.int 1)] x_init _ := ⟨⟨_, _, _, _, _, _, _, _, _, _, rfl, l_init, c_init, .inl ⟨rfl, rfl⟩, .inr ⟨xD, rfl, fun q m => by rw [List.mem_singleton.mp m]; exact ⟨_, e_init, ⟨_, rfl⟩⟩⟩⟩, k_init⟩
  have kb2 := F_init.kbinds0 (ps := ["self", "loops", "rounds", "hear"]) 2 ["rounds", "hear"] [] (fun vs mz zs => vs ++ zs) (by decide) (fun _ h => absurd h (by simp)) (fun a b c => a.append c) fun D doc pm an cdv ct us mv ws h1 h2 h3 => match us, mv, ws, h1, h2, h3 with | [_, _], [], [_, _], _, _, _ => rfl
  obtain ⟨_, kb2⟩ := kb2
  have F_eq := fun_mk (st := s_eq) l_eq c_eq k_eq
  have b_eq := F_eq.binds (ps := ["self", "other"]) fun _ _ _ _ _ _ us hl => match us, hl with | [_, _], _ => rfl
  have F_first_row := fun_mk (st := s_first_row) l_first_row c_first_row k_first_row
  have b_first_row := F_first_row.binds (ps := ["faults"]) fun _ _ _ _ _ _ us hl => match us, hl with | [_], _ => rfl
  have F_is_loop_too_much := fun_mk (st := s_is_loop_too_much) l_is_loop_too_much c_is_loop_too_much k_is_loop_too_much
  have b_is_loop_too_much := F_is_loop_too_much.binds (ps := ["index", "loop"]) fun _ _ _ _ _ _ us hl => match us, hl with | [_, _], _ => rfl
  have F_has_double_up_to := fun_mk (st := s_has_double_up_to) l_has_double_up_to c_has_double_up_to k_has_double_up_to
  have b_has_double_up_to := F_has_double_up_to.binds (ps := ["loops", "index"]) fun _ _ _ _ _ _ us hl => match us, hl with | [_, _], _ => rfl
  have F_wrong_row := fun_mk (st := s_wrong_row) l_wrong_row c_wrong_row k_wrong_row
  have b_wrong_row := F_wrong_row.binds (ps := ["what", "loops"]) fun _ _ _ _ _ _ us hl => match us, hl with | [_, _], _ => rfl
  have F_read_head := fun_mk (st := s_read_head) l_read_head c_read_head k_read_head
  have b_read_head := F_read_head.binds (ps := ["row"]) fun _ _ _ _ _ _ us hl => match us, hl with | [_], _ => rfl
  have F_read_loop := fun_mk (st := s_read_loop) l_read_loop c_read_loop k_read_loop
  have b_read_loop := F_read_loop.binds (ps := ["index", "row"]) fun _ _ _ _ _ _ us hl => match us, hl with | [_, _], _ => rfl
  have F_read_town := fun_mk (st := s_read_town) l_read_town c_read_town k_read_town
  have b_read_town := F_read_town.binds (ps := ["text"]) fun _ _ _ _ _ _ us hl => match us, hl with | [_], _ => rfl
  have F_bag := fun_mk (st := s_bag) l_bag c_bag k_bag
  have b_bag := F_bag.binds (ps := ["_law_script"]) fun _ _ _ _ _ _ us hl => match us, hl with | [_], _ => rfl
  have F_draw := fun_mk (st := s_draw) l_draw c_draw k_draw
  have b_draw := F_draw.binds (ps := ["_law_bag_here", "_law_limit"]) fun _ _ _ _ _ _ us hl => match us, hl with | [_, _], _ => rfl
  have F_number := fun_mk (st := s_number) l_number c_number k_number
  have b_number := F_number.binds (ps := ["_law_bag_here"]) fun _ _ _ _ _ _ us hl => match us, hl with | [_], _ => rfl
  have F_numbers := fun_mk (st := s_numbers) l_numbers c_numbers k_numbers
  have b_numbers := F_numbers.binds (ps := ["_law_bag_here", "_law_many"]) fun _ _ _ _ _ _ us hl => match us, hl with | [_, _], _ => rfl
  have F_pairs := fun_mk (st := s_pairs) l_pairs c_pairs k_pairs
  have b_pairs := F_pairs.binds (ps := ["_law_bag_here", "_law_numbers_here"]) fun _ _ _ _ _ _ us hl => match us, hl with | [_, _], _ => rfl
  have F_loops := fun_mk (st := s_loops) l_loops c_loops k_loops
  have b_loops := F_loops.binds (ps := ["_law_bag_here"]) fun _ _ _ _ _ _ us hl => match us, hl with | [_], _ => rfl
  have F_box_fault := fun_mk (st := s_box_fault) l_box_fault c_box_fault k_box_fault
  have b_box_fault := F_box_fault.binds (ps := ["_law_bag_here", "_law_loops_here"]) fun _ _ _ _ _ _ us hl => match us, hl with | [_, _], _ => rfl
  have F_head := fun_mk (st := s_head) l_head c_head k_head
  have b_head := F_head.binds (ps := ["_law_bag_here"]) fun _ _ _ _ _ _ us hl => match us, hl with | [_], _ => rfl
  have F_row_fault := fun_mk (st := s_row_fault) l_row_fault c_row_fault k_row_fault
  have b_row_fault := F_row_fault.binds (ps := ["_law_bag_here", "_law_rows"]) fun _ _ _ _ _ _ us hl => match us, hl with | [_, _], _ => rfl
  have F_pieces := fun_mk (st := s_pieces) l_pieces c_pieces k_pieces
  have b_pieces := F_pieces.binds (ps := ["_law_row"]) fun _ _ _ _ _ _ us hl => match us, hl with | [_], _ => rfl
  have F_lis_number := fun_mk (st := s_lis_number) l_lis_number c_lis_number k_lis_number
  have b_lis_number := F_lis_number.binds (ps := ["_law_thing"]) fun _ _ _ _ _ _ us hl => match us, hl with | [_], _ => rfl
  have F_first := fun_mk (st := s_first) l_first c_first k_first
  have b_first := F_first.binds (ps := ["_law_loops_here"]) fun _ _ _ _ _ _ us hl => match us, hl with | [_], _ => rfl
  have F_due := fun_mk (st := s_due) l_due c_due k_due
  have b_due := F_due.binds (ps := ["_law_text"]) fun _ _ _ _ _ _ us hl => match us, hl with | [_], _ => rfl
  have F_read := fun_mk (st := s_read) l_read c_read k_read
  have b_read := F_read.binds (ps := ["_law_text"]) fun _ _ _ _ _ _ us hl => match us, hl with | [_], _ => rfl
  have F_law := fun_mk (st := s_law) l_law c_law k_law
  have b_law := F_law.binds (ps := ["_law_script"]) fun _ _ _ _ _ _ us hl => match us, hl with | [_], _ => rfl
  have lowB : PySem.LowB.LowTxt K mg eCB eIB :=
    { gC := PySem.W.mg_of X G e_aB, cls := ⟨enmB, eqB, eNB, ebsB, _, esnB, esubB, eabB, ecolB, eddB, em0B, em1B, em2B, em3B, em5B, e_xB, e_bB⟩, sa := e_sB, ga := e_gB, gg := e_hB, noN := e_nB, iC := e_iB, tC := e_tB, kC := e_kB, exC := e_eB, tyC := e_tyB, hdC := e_dB, te := PySem.W.exm_ref e_eB e_dB e_tyB e_scB,
      fn := ⟨_, _, _, _, _, _, _, _, _, _, _, _, _, _, e_lB, e_cB⟩ }
  have lowR : PySem.LowR.LowTxt K mg eCR eIR :=
    { gC := PySem.W.mg_of X G e_aR, cls := ⟨enmR, eqR, eNR, ebsR, _, esnR, esubR, eabR, ecolR, eddR, em0R, em1R, em2R, em3R, em5R, e_xR, e_bR⟩, sa := e_sR, ga := e_gR, gg := e_hR, noN := e_nR, noM := e_mR, iC := e_iR, tC := e_tR, kC := e_kR, exC := e_eR, tyC := e_tyR, hdC := e_dR, te := PySem.W.exm_ref e_eR e_dR e_tyR e_scR,
      fn := ⟨_, _, _, _, _, _, _, _, _, _, _, _, _, _, _, _, _, _, _, e_lR, e_cR⟩ }
  have T : Σ' T : Txt K mg, T.a_law = fa ∧ T.d_law = PySem.W.fnOf "law" "law" (defArgs s_law) (defBody s_law) (defScope s_law) .none kV_law dc_law pm_law an_law cd_law ct_law :=
    ⟨{ C := xC, gC := PySem.W.mg_of X G axC, clC := ⟨pg, hd, po, sa⟩,
        isi := ⟨ica, icn, ict, icm⟩, kS := kS,
        mc := .type "type", rd := ⟨rd, ga⟩, uP := _, uS := _, vP := ⟨vP, ⟨_, rfl⟩⟩, vS := ⟨vS, ⟨_, rfl⟩⟩, nL := nL, nR := nR, nH := nH, nN := nN,
        CB := _, fB := _, lowB := lowB, CR := _, fR := _, lowR := lowR, Wc := _, gWc := PySem.W.mg_of X G e_w, kRW := krw, kRB := krb,
        xcR := ⟨e_gR, e_hR, e_eR, e_dR, e_haR, icn, ict, e_hmR⟩, cliR := e_icR,
        sfC := (by unfold PySem.W.notFirst; simp), aEq := a_eq, iEq := i_eq,
        a_is_whole := _, d_is_whole := _, F_is_whole := F_is_whole, b_is_whole := b_is_whole, g_is_whole := PySem.W.mg_of X G a_is_whole,
        a_is_whole_within := _, d_is_whole_within := _, F_is_whole_within := F_is_whole_within, b_is_whole_within := b_is_whole_within, g_is_whole_within := PySem.W.mg_of X G a_is_whole_within,
        a_is_sequence := _, d_is_sequence := _, F_is_sequence := F_is_sequence, b_is_sequence := b_is_sequence, g_is_sequence := PySem.W.mg_of X G a_is_sequence,
        a_is_digit := _, d_is_digit := _, F_is_digit := F_is_digit, b_is_digit := b_is_digit, g_is_digit := PySem.W.mg_of X G a_is_digit,
        a_is_number := _, d_is_number := _, F_is_number := F_is_number, b_is_number := b_is_number, g_is_number := PySem.W.mg_of X G a_is_number,
        a_is_sort := _, d_is_sort := _, F_is_sort := F_is_sort, b_is_sort := b_is_sort, g_is_sort := PySem.W.mg_of X G a_is_sort,
        a_has_double := _, d_has_double := _, F_has_double := F_has_double, b_has_double := b_has_double, g_has_double := PySem.W.mg_of X G a_has_double,
        a_are_loops := _, d_are_loops := _, F_are_loops := F_are_loops, b_are_loops := b_are_loops, g_are_loops := PySem.W.mg_of X G a_are_loops,
        a_check_boxes := _, d_check_boxes := _, F_check_boxes := F_check_boxes, b_check_boxes := b_check_boxes, g_check_boxes := PySem.W.mg_of X G a_check_boxes,
        a_check_town := _, d_check_town := _, F_check_town := F_check_town, b_check_town := b_check_town, g_check_town := PySem.W.mg_of X G a_check_town,
        a_init := _, d_init := _, F_init := F_init, mk_init := ⟨mk, a_init, i_init, kc⟩, kb2 := kb2,
        a_eq := _, d_eq := _, F_eq := F_eq, b_eq := b_eq, m_eq := ⟨a_eq, i_eq, k_eq⟩,
        a_first_row := _, d_first_row := _, F_first_row := F_first_row, b_first_row := b_first_row, g_first_row := PySem.W.mg_of X G a_first_row,
        a_is_loop_too_much := _, d_is_loop_too_much := _, F_is_loop_too_much := F_is_loop_too_much, b_is_loop_too_much := b_is_loop_too_much, g_is_loop_too_much := PySem.W.mg_of X G a_is_loop_too_much,
        a_has_double_up_to := _, d_has_double_up_to := _, F_has_double_up_to := F_has_double_up_to, b_has_double_up_to := b_has_double_up_to, g_has_double_up_to := PySem.W.mg_of X G a_has_double_up_to,
        a_wrong_row := _, d_wrong_row := _, F_wrong_row := F_wrong_row, b_wrong_row := b_wrong_row, g_wrong_row := PySem.W.mg_of X G a_wrong_row,
        a_read_head := _, d_read_head := _, F_read_head := F_read_head, b_read_head := b_read_head, g_read_head := PySem.W.mg_of X G a_read_head,
        a_read_loop := _, d_read_loop := _, F_read_loop := F_read_loop, b_read_loop := b_read_loop, g_read_loop := PySem.W.mg_of X G a_read_loop,
        a_read_town := _, d_read_town := _, F_read_town := F_read_town, b_read_town := b_read_town, g_read_town := PySem.W.mg_of X G a_read_town,
        a_bag := _, d_bag := _, F_bag := F_bag, b_bag := b_bag, g_bag := PySem.W.mg_of X G a_bag,
        a_draw := _, d_draw := _, F_draw := F_draw, b_draw := b_draw, g_draw := PySem.W.mg_of X G a_draw,
        a_number := _, d_number := _, F_number := F_number, b_number := b_number, g_number := PySem.W.mg_of X G a_number,
        a_numbers := _, d_numbers := _, F_numbers := F_numbers, b_numbers := b_numbers, g_numbers := PySem.W.mg_of X G a_numbers,
        a_pairs := _, d_pairs := _, F_pairs := F_pairs, b_pairs := b_pairs, g_pairs := PySem.W.mg_of X G a_pairs,
        a_loops := _, d_loops := _, F_loops := F_loops, b_loops := b_loops, g_loops := PySem.W.mg_of X G a_loops,
        a_box_fault := _, d_box_fault := _, F_box_fault := F_box_fault, b_box_fault := b_box_fault, g_box_fault := PySem.W.mg_of X G a_box_fault,
        a_head := _, d_head := _, F_head := F_head, b_head := b_head, g_head := PySem.W.mg_of X G a_head,
        a_row_fault := _, d_row_fault := _, F_row_fault := F_row_fault, b_row_fault := b_row_fault, g_row_fault := PySem.W.mg_of X G a_row_fault,
        a_pieces := _, d_pieces := _, F_pieces := F_pieces, b_pieces := b_pieces, g_pieces := PySem.W.mg_of X G a_pieces,
        a_lis_number := _, d_lis_number := _, F_lis_number := F_lis_number, b_lis_number := b_lis_number, g_lis_number := PySem.W.mg_of X G a_lis_number,
        a_first := _, d_first := _, F_first := F_first, b_first := b_first, g_first := PySem.W.mg_of X G a_first,
        a_due := _, d_due := _, F_due := F_due, b_due := b_due, g_due := PySem.W.mg_of X G a_due,
        a_read := _, d_read := _, F_read := F_read, b_read := b_read, g_read := PySem.W.mg_of X G a_read,
        a_law := _, d_law := _, F_law := F_law, b_law := b_law, g_law := PySem.W.mg_of X G a_law,
        t_DIGITS := _, c_DIGITS := PySem.W.mg_of X G n_DIGITS,
        t_MOST_DIGITS := _, c_MOST_DIGITS := PySem.W.mg_of X G n_MOST_DIGITS,
        t_GREATEST_SUM := _, c_GREATEST_SUM := PySem.W.mg_of X G n_GREATEST_SUM,
        t_MOST_LOOPS := _, c_MOST_LOOPS := PySem.W.mg_of X G n_MOST_LOOPS,
        t_MOST_BOXES := _, c_MOST_BOXES := PySem.W.mg_of X G n_MOST_BOXES,
        t_MOST_ROUNDS := _, c_MOST_ROUNDS := PySem.W.mg_of X G n_MOST_ROUNDS,
        t_LOOP_HEAD := _, c_LOOP_HEAD := PySem.W.mg_of X G n_LOOP_HEAD,
        z_all := PySem.W.mg_none_of X G z_all,
        z_bool := PySem.W.mg_none_of X G z_bool,
        z_enumerate := PySem.W.mg_none_of X G z_enumerate,
        z_int := PySem.W.mg_none_of X G z_int,
        z_isinstance := PySem.W.mg_none_of X G z_isinstance,
        z_len := PySem.W.mg_none_of X G z_len,
        z_list := PySem.W.mg_none_of X G z_list,
        z_min := PySem.W.mg_none_of X G z_min,
        z_range := PySem.W.mg_none_of X G z_range,
        z_set := PySem.W.mg_none_of X G z_set,
        z_str := PySem.W.mg_none_of X G z_str,
        z_sum := PySem.W.mg_none_of X G z_sum,
        z_tuple := PySem.W.mg_none_of X G z_tuple }, rfl, rfl⟩
  obtain ⟨T, e1, e2⟩ := T
  subst e1
  refine ⟨T.d_law, fun s v => by rw [e2]; exact .of_eq rfl, fun base _ _ => ok_law T⟩
theorem walk {l : PySem.W.OpenLaw} {q : Program} {loose : List Str} {XP : (Str → Option Value) → Heap → Prop} {YP : World → Heap → Prop} {d : DefRec} {K : Params → PySem.W.Frag} (hn : l.most = some 63) (hdf : d.params.defaults = [])
    (hY : ∀ (w : World) (h : Heap), YP w h → (K w.params).In h)
    (F : ∀ (w : World) (mg : Str → Option Value) (fa : Addr) (h : Heap), (K w.params).In h → h.Ns mainGlobals mg → mg d.name = some (.ref fa) →
      ∃ fd : FuncData, (∀ (s : Shared) (u : Value), BindsTo s fd ⟨[u], []⟩ [("_law_script", u)]) ∧ ∀ base : Heap, (K w.params).In base → base.Ns mainGlobals mg → FnOk l.prog w (K w.params) mg base CX0 11 fa fd ["_law_script"] (sp_law (K w.params))) :
    PySem.W.WalkO q loose XP YP l.row.toRowW d [] (fun f vs => PySem.call f vs) :=
  L2.walk_of (n := 63) (k := 11) (x := "_law_script") (CX := fun _ => CX0) (sp := fun w => sp_law (K w.params)) hn (by decide) hdf ⟨rfl, by decide, by decide⟩ hY F (fun _ _ a ns hl _ hS => ⟨a, ns, rfl, hS, hl, fun _ => rfl⟩) fun _ _ _ _ _ z => z
end K10

open PySem PySem.W PyProof.Rows in
set_option maxRecDepth 100000 in
set_option maxHeartbeats 0 in
theorem PySem.Challenge.cw_wheelchorus_k10_town_texts_refused_holds : PySem.Challenge.rw_wheelchorus_k10_town_texts_refused.Holds := by
  w_on; o_law; k_head; (case hw => w_witness2)
  k_fill
  refine K10.walk (l := PySem.Challenge.rw_wheelchorus_k10_town_texts_refused) rfl rfl (fun w h Y => PySem.W.kIn_of Y) ?F
  case F =>
    intro w mg fa h KX G hmg
    refine' K10.all_mk KX G hmg ?axC ?a_is_whole ?l_is_whole ?c_is_whole ?k_is_whole ?a_is_whole_within ?l_is_whole_within ?c_is_whole_within ?k_is_whole_within ?a_is_sequence ?l_is_sequence ?c_is_sequence ?k_is_sequence ?a_is_digit ?l_is_digit ?c_is_digit ?k_is_digit ?a_is_number ?l_is_number ?c_is_number ?k_is_number ?a_is_sort ?l_is_sort ?c_is_sort ?k_is_sort ?a_has_double ?l_has_double ?c_has_double ?k_has_double ?a_are_loops ?l_are_loops ?c_are_loops ?k_are_loops ?a_check_boxes ?l_check_boxes ?c_check_boxes ?k_check_boxes ?a_check_town ?l_check_town ?c_check_town ?k_check_town ?a_init ?i_init ?l_init ?c_init ?k_init ?e_init ?a_eq ?i_eq ?l_eq ?c_eq ?k_eq ?a_first_row ?l_first_row ?c_first_row ?k_first_row ?a_is_loop_too_much ?l_is_loop_too_much ?c_is_loop_too_much ?k_is_loop_too_much ?a_has_double_up_to ?l_has_double_up_to ?c_has_double_up_to ?k_has_double_up_to ?a_wrong_row ?l_wrong_row ?c_wrong_row ?k_wrong_row ?a_read_head ?l_read_head ?c_read_head ?k_read_head ?a_read_loop ?l_read_loop ?c_read_loop ?k_read_loop ?a_read_town ?l_read_town ?c_read_town ?k_read_town ?a_bag ?l_bag ?c_bag ?k_bag ?a_draw ?l_draw ?c_draw ?k_draw ?a_number ?l_number ?c_number ?k_number ?a_numbers ?l_numbers ?c_numbers ?k_numbers ?a_pairs ?l_pairs ?c_pairs ?k_pairs ?a_loops ?l_loops ?c_loops ?k_loops ?a_box_fault ?l_box_fault ?c_box_fault ?k_box_fault ?a_head ?l_head ?c_head ?k_head ?a_row_fault ?l_row_fault ?c_row_fault ?k_row_fault ?a_pieces ?l_pieces ?c_pieces ?k_pieces ?a_lis_number ?l_lis_number ?c_lis_number ?k_lis_number ?a_first ?l_first ?c_first ?k_first ?a_due ?l_due ?c_due ?k_due ?a_read ?l_read ?c_read ?k_read ?a_law ?l_law ?c_law ?k_law ?pg ?hd ?po ?sa ?mk ?kc ?nL ?nR ?nH ?nN ?ica ?icn ?ict ?icm ?kS ?rd ?ga ?vP ?vS ?e_aB ?e_xB ?e_bB ?e_sB ?e_gB ?e_hB ?e_nB ?e_iB ?e_tB ?e_lB ?e_cB ?e_kB ?e_eB ?e_tyB ?e_dB ?e_scB ?e_aR ?e_xR ?e_bR ?e_sR ?e_gR ?e_hR ?e_nR ?e_mR ?e_iR ?e_tR ?e_lR ?e_cR ?e_kR ?e_eR ?e_tyR ?e_dR ?e_scR ?e_w ?krw ?krb ?e_icR ?e_haR ?e_hmR ?n_DIGITS ?n_MOST_DIGITS ?n_GREATEST_SUM ?n_MOST_LOOPS ?n_MOST_BOXES ?n_MOST_ROUNDS ?n_LOOP_HEAD ?z_all ?z_bool ?z_enumerate ?z_int ?z_isinstance ?z_len ?z_list ?z_min ?z_range ?z_set ?z_str ?z_sum ?z_tuple
    (case axC => k_is)
    (case a_is_whole => k_is)
    (case l_is_whole => k_is)
    (case c_is_whole => k_is)
    (case k_is_whole => k_is)
    (case a_is_whole_within => k_is)
    (case l_is_whole_within => k_is)
    (case c_is_whole_within => k_is)
    (case k_is_whole_within => k_is)
    (case a_is_sequence => k_is)
    (case l_is_sequence => k_is)
    (case c_is_sequence => k_is)
    (case k_is_sequence => k_is)
    (case a_is_digit => k_is)
    (case l_is_digit => k_is)
    (case c_is_digit => k_is)
    (case k_is_digit => k_is)
    (case a_is_number => k_is)
    (case l_is_number => k_is)
    (case c_is_number => k_is)
    (case k_is_number => k_is)
    (case a_is_sort => k_is)
    (case l_is_sort => k_is)
    (case c_is_sort => k_is)
    (case k_is_sort => k_is)
    (case a_has_double => k_is)
    (case l_has_double => k_is)
    (case c_has_double => k_is)
    (case k_has_double => k_is)
    (case a_are_loops => k_is)
    (case l_are_loops => k_is)
    (case c_are_loops => k_is)
    (case k_are_loops => k_is)
    (case a_check_boxes => k_is)
    (case l_check_boxes => k_is)
    (case c_check_boxes => k_is)
    (case k_check_boxes => k_is)
    (case a_check_town => k_is)
    (case l_check_town => k_is)
    (case c_check_town => k_is)
    (case k_check_town => k_is)
    (case a_init => k_is)
    (case i_init => k_is)
    (case l_init => k_is)
    (case c_init => k_is)
    (case k_init => k_is)
    (case e_init => k_is)
    (case a_eq => k_is)
    (case i_eq => k_is)
    (case l_eq => k_is)
    (case c_eq => k_is)
    (case k_eq => k_is)
    (case a_first_row => k_is)
    (case l_first_row => k_is)
    (case c_first_row => k_is)
    (case k_first_row => k_is)
    (case a_is_loop_too_much => k_is)
    (case l_is_loop_too_much => k_is)
    (case c_is_loop_too_much => k_is)
    (case k_is_loop_too_much => k_is)
    (case a_has_double_up_to => k_is)
    (case l_has_double_up_to => k_is)
    (case c_has_double_up_to => k_is)
    (case k_has_double_up_to => k_is)
    (case a_wrong_row => k_is)
    (case l_wrong_row => k_is)
    (case c_wrong_row => k_is)
    (case k_wrong_row => k_is)
    (case a_read_head => k_is)
    (case l_read_head => k_is)
    (case c_read_head => k_is)
    (case k_read_head => k_is)
    (case a_read_loop => k_is)
    (case l_read_loop => k_is)
    (case c_read_loop => k_is)
    (case k_read_loop => k_is)
    (case a_read_town => k_is)
    (case l_read_town => k_is)
    (case c_read_town => k_is)
    (case k_read_town => k_is)
    (case a_bag => k_is)
    (case l_bag => k_is)
    (case c_bag => k_is)
    (case k_bag => k_is)
    (case a_draw => k_is)
    (case l_draw => k_is)
    (case c_draw => k_is)
    (case k_draw => k_is)
    (case a_number => k_is)
    (case l_number => k_is)
    (case c_number => k_is)
    (case k_number => k_is)
    (case a_numbers => k_is)
    (case l_numbers => k_is)
    (case c_numbers => k_is)
    (case k_numbers => k_is)
    (case a_pairs => k_is)
    (case l_pairs => k_is)
    (case c_pairs => k_is)
    (case k_pairs => k_is)
    (case a_loops => k_is)
    (case l_loops => k_is)
    (case c_loops => k_is)
    (case k_loops => k_is)
    (case a_box_fault => k_is)
    (case l_box_fault => k_is)
    (case c_box_fault => k_is)
    (case k_box_fault => k_is)
    (case a_head => k_is)
    (case l_head => k_is)
    (case c_head => k_is)
    (case k_head => k_is)
    (case a_row_fault => k_is)
    (case l_row_fault => k_is)
    (case c_row_fault => k_is)
    (case k_row_fault => k_is)
    (case a_pieces => k_is)
    (case l_pieces => k_is)
    (case c_pieces => k_is)
    (case k_pieces => k_is)
    (case a_lis_number => k_is)
    (case l_lis_number => k_is)
    (case c_lis_number => k_is)
    (case k_lis_number => k_is)
    (case a_first => k_is)
    (case l_first => k_is)
    (case c_first => k_is)
    (case k_first => k_is)
    (case a_due => k_is)
    (case l_due => k_is)
    (case c_due => k_is)
    (case k_due => k_is)
    (case a_read => k_is)
    (case l_read => k_is)
    (case c_read => k_is)
    (case k_read => k_is)
    (case a_law => k_is)
    (case l_law => k_is)
    (case c_law => k_is)
    (case k_law => k_is)
    (case pg => k_is)
    (case hd => k_is)
    (case po => k_is)
    (case sa => k_is)
    (case mk => k_is)
    (case kc => k_is)
    (case nL => k_is)
    (case nR => k_is)
    (case nH => k_is)
    (case nN => k_is)
    (case ica => k_is)
    (case icn => k_is)
    (case ict => k_is)
    (case icm => k_is)
    (case kS => first | k_is | kit_is | (decide +kernel))
    (case rd => k_is)
    (case ga => k_is)
    (case vP => k_is)
    (case vS => k_is)
    (case e_aB => k_is)
    (case e_xB => k_is)
    (case e_bB => decide +kernel)
    (case e_sB => k_is)
    (case e_gB => k_is)
    (case e_hB => k_is)
    (case e_nB => k_is)
    (case e_iB => k_is)
    (case e_tB => k_is)
    (case e_lB => k_is)
    (case e_cB => k_is)
    (case e_kB => k_is)
    (case e_eB => k_is)
    (case e_tyB => k_is)
    (case e_dB => k_is)
    (case e_scB => first | rfl | k_is)
    (case e_aR => k_is)
    (case e_xR => k_is)
    (case e_bR => decide +kernel)
    (case e_sR => k_is)
    (case e_gR => k_is)
    (case e_hR => k_is)
    (case e_nR => k_is)
    (case e_mR => k_is)
    (case e_iR => k_is)
    (case e_tR => k_is)
    (case e_lR => k_is)
    (case e_cR => k_is)
    (case e_kR => k_is)
    (case e_eR => k_is)
    (case e_tyR => k_is)
    (case e_dR => k_is)
    (case e_scR => first | rfl | k_is)
    (case e_w => k_is)
    (case krw => first | k_is | kit_is | (decide +kernel))
    (case krb => first | k_is | kit_is | (decide +kernel))
    (case e_icR => k_is)
    (case e_haR => k_is)
    (case e_hmR => k_is)
    (case n_DIGITS => k_is)
    (case n_MOST_DIGITS => k_is)
    (case n_GREATEST_SUM => k_is)
    (case n_MOST_LOOPS => k_is)
    (case n_MOST_BOXES => k_is)
    (case n_MOST_ROUNDS => k_is)
    (case n_LOOP_HEAD => k_is)
    (case z_all => k_is)
    (case z_bool => k_is)
    (case z_enumerate => k_is)
    (case z_int => k_is)
    (case z_isinstance => k_is)
    (case z_len => k_is)
    (case z_list => k_is)
    (case z_min => k_is)
    (case z_range => k_is)
    (case z_set => k_is)
    (case z_str => k_is)
    (case z_sum => k_is)
    (case z_tuple => k_is)
