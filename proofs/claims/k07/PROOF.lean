import PyProof.Rows.All
import Wide.All
import OpenK.AllK
import Wide.FinOn
import KE.KDictList
import HandS.ForMost
import HandS.Deep
import HandS.DictComp
import HandS.IsInst
import HandS.FStr
import HandS.Style
import HandS.More
import HandS.Text
import PyProof.Rows.SeqMore
import HandS.Zip
import HandS.Exc
import HandS.ExcOwn
import HandS.TryOnly
import HandS.ExcCtx
import HandS.ExcIs
import HandS.Hot
import HandS.HotCalls
import HandS.Lambda
import HandS.SetKeys
import HandS.SetBool
import PyProof.FactsAll.set_1
import HandS.Set
import HandS.Strs
import HandS.Nested
import HandS.SortKw
import HandS.Iter
import KE.DataMinKey
import PyProof.Rows.ListMulR
import PyProof.ListMulRoad
import PyProof.MaxThree
import PyProof.MinMaxWalk
import PyProof.WalkInts
import HandS.EndOwn
import KE.KNestM
import PySem.Challenge.RW_lemmaless_k07_whole_decided
set_option Elab.async false
set_option linter.all false
set_option maxRecDepth 100000
/-! formulas as plain data: parts, texts, truth -/
namespace Lm
open PySem

inductive Bw where
  | an | o | th
  deriving DecidableEq
inductive Fm where
  | sg (i : Int)
  | no (f : Fm)
  | bi (w : Bw) (f g : Fm)
  deriving DecidableEq

def Bw.txt : Bw → Str
  | .an => "and"
  | .o => "or"
  | .th => "then"
theorem txt_inj : ∀ {a b : Bw}, a.txt = b.txt → a = b := by
  intro a b h
  cases a <;> cases b <;> first | rfl | exact absurd h (by decide +kernel)
theorem txt_sign : ∀ a : Bw, ¬ a.txt = ("sign" : Str) := by
  intro a; cases a <;> decide +kernel
theorem txt_not : ∀ a : Bw, ¬ a.txt = ("not" : Str) := by
  intro a; cases a <;> decide +kernel

namespace Fm
def toD : Fm → PyData
  | .sg i => .tuple [.str ("sign" : Str), .int i]
  | .no f => .tuple [.str ("not" : Str), f.toD]
  | .bi w f g => .tuple [.str w.txt, f.toD, g.toD]
def size : Fm → Nat
  | .sg _ => 1
  | .no f => f.size + 1
  | .bi _ f g => f.size + g.size + 1
def dep : Fm → Nat
  | .sg _ => 1
  | .no f => f.dep + 1
  | .bi _ f g => max f.dep g.dep + 1
def good : Fm → Prop
  | .sg i => 0 ≤ i ∧ i ≤ 99
  | .no f => f.good
  | .bi _ f g => f.good ∧ g.good
def kids : Fm → List Fm
  | .sg _ => []
  | .no f => [f]
  | .bi _ f g => [f, g]
def parts : Fm → List Fm
  | .sg i => [.sg i]
  | .no f => .no f :: f.parts
  | .bi w f g => .bi w f g :: (f.parts ++ g.parts)
def tr (S : Int → Bool) : Fm → Bool
  | .sg i => S i
  | .no f => !(f.tr S)
  | .bi .an f g => f.tr S && g.tr S
  | .bi .o f g => f.tr S || g.tr S
  | .bi .th f g => !(f.tr S) || g.tr S
theorem size_pos : ∀ f : Fm, 0 < f.size
  | .sg _ => Nat.one_pos
  | .no f => Nat.succ_pos _
  | .bi _ f g => Nat.succ_pos _
theorem dep_pos : ∀ f : Fm, 0 < f.dep
  | .sg _ => Nat.one_pos
  | .no f => Nat.succ_pos _
  | .bi _ f g => Nat.succ_pos _
theorem size_dep : ∀ f : Fm, f.size + 1 ≤ 2 ^ f.dep
  | .sg _ => by show 2 ≤ 2 ^ 1; decide
  | .no f => by
    have h := size_dep f
    have hp := size_pos f
    show f.size + 1 + 1 ≤ 2 ^ (f.dep + 1)
    rw [Nat.pow_succ]
    omega
  | .bi _ f g => by
    have h1 := size_dep f
    have h2 := size_dep g
    have m1 : 2 ^ f.dep ≤ 2 ^ (max f.dep g.dep) := Nat.pow_le_pow_right (by decide) (Nat.le_max_left _ _)
    have m2 : 2 ^ g.dep ≤ 2 ^ (max f.dep g.dep) := Nat.pow_le_pow_right (by decide) (Nat.le_max_right _ _)
    show f.size + g.size + 1 + 1 ≤ 2 ^ (max f.dep g.dep + 1)
    rw [Nat.pow_succ]
    omega
theorem self_part : ∀ f : Fm, f ∈ f.parts
  | .sg _ => List.mem_singleton.mpr rfl
  | .no _ => List.mem_cons_self
  | .bi _ _ _ => List.mem_cons_self
theorem part_size : ∀ {f p : Fm}, p ∈ f.parts → p.size ≤ f.size
  | .sg i, p, h => by
    have e : p = .sg i := List.mem_singleton.mp h
    rw [e]; exact Nat.le_refl _
  | .no f, p, h => by
    rcases List.mem_cons.mp h with e | h
    · rw [e]; exact Nat.le_refl _
    · have := part_size h
      show p.size ≤ f.size + 1
      omega
  | .bi w f g, p, h => by
    rcases List.mem_cons.mp h with e | h
    · rw [e]; exact Nat.le_refl _
    · show p.size ≤ f.size + g.size + 1
      rcases List.mem_append.mp h with h | h
      · have := part_size h
        omega
      · have := part_size h
        omega
theorem part_good : ∀ {f p : Fm}, f.good → p ∈ f.parts → p.good
  | .sg i, p, hg, h => by
    have e : p = .sg i := List.mem_singleton.mp h
    rw [e]; exact hg
  | .no f, p, hg, h => by
    rcases List.mem_cons.mp h with e | h
    · rw [e]; exact hg
    · exact part_good (f := f) hg h
  | .bi w f g, p, hg, h => by
    rcases List.mem_cons.mp h with e | h
    · rw [e]; exact hg
    · rcases List.mem_append.mp h with h | h
      · exact part_good (f := f) hg.1 h
      · exact part_good (f := g) hg.2 h
theorem part_dep : ∀ {f p : Fm}, p ∈ f.parts → p.dep ≤ f.dep
  | .sg i, p, h => by
    have e : p = .sg i := List.mem_singleton.mp h
    rw [e]; exact Nat.le_refl _
  | .no f, p, h => by
    rcases List.mem_cons.mp h with e | h
    · rw [e]; exact Nat.le_refl _
    · have := part_dep h
      show p.dep ≤ f.dep + 1
      omega
  | .bi w f g, p, h => by
    rcases List.mem_cons.mp h with e | h
    · rw [e]; exact Nat.le_refl _
    · show p.dep ≤ max f.dep g.dep + 1
      rcases List.mem_append.mp h with h | h
      · have := part_dep h
        omega
      · have := part_dep h
        omega
/-! ### data equal just where the formulas are -/
theorem e_tup (xs ys : List PyData) : PyData.eqv (.tuple xs) (.tuple ys) = PyData.eqvAll xs ys := by simp only [PyData.eqv]
theorem e_cons (x y : PyData) (xs ys : List PyData) : PyData.eqvAll (x :: xs) (y :: ys) = (PyData.eqv x y && PyData.eqvAll xs ys) := by simp only [PyData.eqvAll]
theorem e_nil : PyData.eqvAll [] [] = true := by simp only [PyData.eqvAll]
theorem e_short (y : PyData) (ys : List PyData) : PyData.eqvAll [] (y :: ys) = false := by simp only [PyData.eqvAll]
theorem e_long (y : PyData) (ys : List PyData) : PyData.eqvAll (y :: ys) [] = false := by simp only [PyData.eqvAll]
theorem e_str (x y : Str) : PyData.eqv (.str x) (.str y) = (x == y) := by simp only [PyData.eqv]
theorem e_int (x y : Int) : PyData.eqv (.int x) (.int y) = (x == y) := by simp only [PyData.eqv]
theorem toD_sg (i : Int) : (Fm.sg i).toD = .tuple [.str ("sign" : Str), .int i] := rfl
theorem toD_no (f : Fm) : (Fm.no f).toD = .tuple [.str ("not" : Str), f.toD] := rfl
theorem toD_bi (w : Bw) (f g : Fm) : (Fm.bi w f g).toD = .tuple [.str w.txt, f.toD, g.toD] := rfl
theorem toD_eqv : ∀ f g : Fm, PyData.eqv f.toD g.toD = decide (f = g)
  | .sg i, .sg j => by
    rw [toD_sg, toD_sg, e_tup, e_cons, e_cons, e_nil, e_str, e_int, beq_self_eq_true, Bool.true_and, Bool.and_true]
    by_cases h : i = j
    · rw [h, beq_self_eq_true]; exact (decide_eq_true rfl).symm
    · rw [decide_eq_false (fun q => h (Fm.sg.inj q))]; exact beq_eq_false_iff_ne.mpr h
  | .no f, .no g => by
    rw [toD_no, toD_no, e_tup, e_cons, e_cons, e_nil, e_str, beq_self_eq_true, Bool.true_and, Bool.and_true, toD_eqv f g]
    by_cases h : f = g
    · rw [h]; simp
    · rw [decide_eq_false h, decide_eq_false (fun q => h (Fm.no.inj q))]
  | .bi w f g, .bi v f' g' => by
    rw [toD_bi, toD_bi, e_tup, e_cons, e_cons, e_cons, e_nil, e_str, Bool.and_true, toD_eqv f f', toD_eqv g g']
    by_cases hw : w = v
    · subst hw
      rw [beq_self_eq_true, Bool.true_and]
      by_cases h1 : f = f'
      · subst h1
        by_cases h2 : g = g'
        · subst h2; simp
        · rw [decide_eq_false h2, Bool.and_false, decide_eq_false]
          intro q; exact h2 (Fm.bi.inj q).2.2
      · rw [decide_eq_false h1, Bool.false_and, decide_eq_false]
        intro q; exact h1 (Fm.bi.inj q).2.1
    · have q : (w.txt == v.txt) = false := beq_eq_false_iff_ne.mpr fun z => hw (txt_inj z)
      rw [q, Bool.false_and, decide_eq_false]
      intro z; exact hw (Fm.bi.inj z).1
  | .sg i, .no g => by
    rw [toD_sg, toD_no, e_tup, e_cons, e_str, show (("sign" : Str) == ("not" : Str)) = false from by decide +kernel, Bool.false_and, decide_eq_false (fun q => nomatch q)]
  | .no f, .sg j => by
    rw [toD_sg, toD_no, e_tup, e_cons, e_str, show (("not" : Str) == ("sign" : Str)) = false from by decide +kernel, Bool.false_and, decide_eq_false (fun q => nomatch q)]
  | .sg i, .bi v f g => by
    rw [toD_sg, toD_bi, e_tup, e_cons, e_cons, e_short, Bool.and_false, Bool.and_false, decide_eq_false (fun q => nomatch q)]
  | .bi v f g, .sg i => by
    rw [toD_sg, toD_bi, e_tup, e_cons, e_cons, e_long, Bool.and_false, Bool.and_false, decide_eq_false (fun q => nomatch q)]
  | .no f', .bi v f g => by
    rw [toD_no, toD_bi, e_tup, e_cons, e_cons, e_short, Bool.and_false, Bool.and_false, decide_eq_false (fun q => nomatch q)]
  | .bi v f g, .no f' => by
    rw [toD_no, toD_bi, e_tup, e_cons, e_cons, e_long, Bool.and_false, Bool.and_false, decide_eq_false (fun q => nomatch q)]
theorem toD_lay : ∀ f : Fm, f.toD.canLay0 = true
  | .sg i => by
    simp only [toD, PyData.canLay0, PyData.canLayAll0, Bool.and_true]
    decide +kernel
  | .no f => by
    have h := toD_lay f
    simp only [toD, PyData.canLay0, PyData.canLayAll0, Bool.and_true, h]
    decide +kernel
  | .bi w f g => by
    have h := toD_lay f
    have h2 := toD_lay g
    simp only [toD, PyData.canLay0, PyData.canLayAll0, Bool.and_true, h, h2]
    cases w <;> decide +kernel
theorem toD_depth : ∀ f : Fm, f.toD.depth = f.dep
  | .sg i => by simp [toD, PyData.depth, PyData.depthAll, dep]
  | .no f => by
    have h := toD_depth f
    simp [toD, PyData.depth, PyData.depthAll, dep, h]
  | .bi w f g => by
    have h := toD_depth f
    have h2 := toD_depth g
    simp [toD, PyData.depth, PyData.depthAll, dep, h, h2]
end Fm

theorem lays_all : ∀ fs : List Fm, PyData.canLayAll0 (fs.map Fm.toD) = true
  | [] => rfl
  | f :: fs => by
    have h := lays_all fs
    simp only [List.map_cons, PyData.canLayAll0, Fm.toD_lay f, h, Bool.and_true]
theorem depths_all {n : Nat} : ∀ fs : List Fm, (∀ f ∈ fs, f.dep ≤ n) → PyData.depthAll (fs.map Fm.toD) ≤ n
  | [], _ => Nat.zero_le _
  | f :: fs, h => by
    have h1 := depths_all fs fun g hg => h g (List.mem_cons_of_mem _ hg)
    have h2 := h f List.mem_cons_self
    simp only [List.map_cons, PyData.depthAll, Fm.toD_depth f]
    omega
theorem shaped_fm (f : Fm) (h : f.dep ≤ 64) : SeqAt.shaped f.toD = true := by
  show (f.toD.canLay0 && decide (f.toD.depth ≤ 64)) = true
  rw [Fm.toD_lay, Fm.toD_depth, Bool.true_and]
  exact decide_eq_true h
theorem shaped_fms (fs : List Fm) (h : ∀ f ∈ fs, f.dep ≤ 63) : SeqAt.shaped (.list (fs.map Fm.toD)) = true := by
  have h1 := depths_all fs h
  show (PyData.canLayAll0 (fs.map Fm.toD) && decide (PyData.depthAll (fs.map Fm.toD) + 1 ≤ 64)) = true
  rw [lays_all, Bool.true_and]
  exact decide_eq_true (by omega)
theorem eqv_fms (fs : List Fm) : PyData.eqv (.list (fs.map Fm.toD)) (.list (fs.map Fm.toD)) = true := SeqAt.eqv_refl _ (lays_all fs)
theorem any_fm (f : Fm) : ∀ fs : List Fm, ((fs.map Fm.toD).any fun z => PyData.eqv z f.toD) = decide (f ∈ fs)
  | [] => by simp
  | g :: fs => by
    rw [List.map_cons, List.any_cons, any_fm f fs, Fm.toD_eqv]
    by_cases h : g = f
    · subst h
      simp
    · rw [decide_eq_false h, Bool.false_or]
      by_cases h2 : f ∈ fs
      · rw [decide_eq_true h2, decide_eq_true (List.mem_cons_of_mem _ h2)]
      · rw [decide_eq_false h2, decide_eq_false]
        intro q
        rcases List.mem_cons.mp q with e | e
        · exact h e.symm
        · exact h2 e

/-! ### parts, each where it stands first: by the program's way (a part that is there is passed over), by the law's (all is walked) -/
def findP : Fm → List Fm → List Fm
  | f, acc => if f ∈ acc then acc else match f with
    | .sg i => acc ++ [.sg i]
    | .no g => findP g (acc ++ [.no g])
    | .bi w g h => findP h (findP g (acc ++ [.bi w g h]))
def walkP : Fm → List Fm → List Fm
  | .sg i, acc => if Fm.sg i ∈ acc then acc else acc ++ [.sg i]
  | .no g, acc => walkP g (if Fm.no g ∈ acc then acc else acc ++ [.no g])
  | .bi w g h, acc => walkP h (walkP g (if Fm.bi w g h ∈ acc then acc else acc ++ [.bi w g h]))
theorem findP_in {f : Fm} {acc : List Fm} (h : f ∈ acc) : findP f acc = acc := by
  cases f <;> (unfold findP; rw [if_pos h])
theorem findP_out {f : Fm} {acc : List Fm} (h : ¬ f ∈ acc) : findP f acc = f.kids.foldl (fun a g => findP g a) (acc ++ [f]) := by
  cases f <;> (rw [findP, if_neg h]; rfl)
theorem walkP_eq (f : Fm) (acc : List Fm) : walkP f acc = f.kids.foldl (fun a g => walkP g a) (if f ∈ acc then acc else acc ++ [f]) := by
  cases f <;> rfl
theorem walkP_stay : ∀ (f : Fm) (acc : List Fm), (∀ p ∈ f.parts, p ∈ acc) → walkP f acc = acc
  | .sg i, acc, h => by rw [walkP, if_pos (h _ (Fm.self_part _))]
  | .no g, acc, h => by
    rw [walkP, if_pos (h _ (Fm.self_part _))]
    exact walkP_stay g acc fun p hp => h p (List.mem_cons_of_mem _ hp)
  | .bi w g k, acc, h => by
    rw [walkP, if_pos (h _ (Fm.self_part _)), walkP_stay g acc fun p hp => h p (List.mem_cons_of_mem _ (List.mem_append_left _ hp))]
    exact walkP_stay k acc fun p hp => h p (List.mem_cons_of_mem _ (List.mem_append_right _ hp))
/-- what is small is whole in acc -/
def Whole (n : Nat) (acc : List Fm) : Prop := ∀ g ∈ acc, g.size ≤ n → ∀ p ∈ g.parts, p ∈ acc
theorem Whole.mono {m n : Nat} {acc : List Fm} (h : Whole n acc) (e : m ≤ n) : Whole m acc := fun g hg hs => h g hg (Nat.le_trans hs e)
theorem walk_sub : ∀ (f : Fm) (acc : List Fm), ∀ g ∈ acc, g ∈ walkP f acc
  | .sg i, acc, g, h => by
    rw [walkP]; split
    · exact h
    · exact List.mem_append_left _ h
  | .no k, acc, g, h => by
    rw [walkP]
    refine walk_sub k _ g ?_
    split
    · exact h
    · exact List.mem_append_left _ h
  | .bi w k l, acc, g, h => by
    rw [walkP]
    refine walk_sub l _ g (walk_sub k _ g ?_)
    split
    · exact h
    · exact List.mem_append_left _ h
theorem walk_has : ∀ (f : Fm) (acc : List Fm), ∀ p ∈ f.parts, p ∈ walkP f acc
  | .sg i, acc, p, h => by
    have e : p = .sg i := List.mem_singleton.mp h
    rw [e, walkP]; split
    · assumption
    · exact List.mem_append_right _ (List.mem_singleton.mpr rfl)
  | .no k, acc, p, h => by
    rw [walkP]
    rcases List.mem_cons.mp h with e | h
    · rw [e]
      refine walk_sub k _ _ ?_
      split
      · assumption
      · exact List.mem_append_right _ (List.mem_singleton.mpr rfl)
    · exact walk_has k _ p h
  | .bi w k l, acc, p, h => by
    rw [walkP]
    rcases List.mem_cons.mp h with e | h
    · rw [e]
      refine walk_sub l _ _ (walk_sub k _ _ ?_)
      split
      · assumption
      · exact List.mem_append_right _ (List.mem_singleton.mpr rfl)
    · rcases List.mem_append.mp h with h | h
      · exact walk_sub l _ _ (walk_has k _ p h)
      · exact walk_has l _ p h
/-- what is new in the walk is a part of f -/
theorem walk_new : ∀ (f : Fm) (acc : List Fm), ∀ g ∈ walkP f acc, g ∈ acc ∨ g ∈ f.parts
  | .sg i, acc, g, h => by
    rw [walkP] at h
    split at h
    · exact .inl h
    · exact (List.mem_append.mp h)
  | .no k, acc, g, h => by
    rw [walkP] at h
    rcases walk_new k _ g h with h | h
    · split at h
      · exact .inl h
      · rcases List.mem_append.mp h with h | h
        · exact .inl h
        · exact .inr (List.mem_singleton.mp h ▸ Fm.self_part _)
    · exact .inr (List.mem_cons_of_mem _ h)
  | .bi w k l, acc, g, h => by
    rw [walkP] at h
    rcases walk_new l _ g h with h | h
    · rcases walk_new k _ g h with h | h
      · split at h
        · exact .inl h
        · rcases List.mem_append.mp h with h | h
          · exact .inl h
          · exact .inr (List.mem_singleton.mp h ▸ Fm.self_part _)
      · exact .inr (List.mem_cons_of_mem _ (List.mem_append_left _ h))
    · exact .inr (List.mem_cons_of_mem _ (List.mem_append_right _ h))
theorem Fm.part_trans : ∀ {f p q : Fm}, p ∈ f.parts → q ∈ p.parts → q ∈ f.parts
  | .sg i, p, q, hp, hq => by
    have e : p = .sg i := List.mem_singleton.mp hp
    rw [e] at hq; exact hq
  | .no f, p, q, hp, hq => by
    rcases List.mem_cons.mp hp with e | hp
    · rw [e] at hq; exact hq
    · exact List.mem_cons_of_mem _ (Fm.part_trans hp hq)
  | .bi w f g, p, q, hp, hq => by
    rcases List.mem_cons.mp hp with e | hp
    · rw [e] at hq; exact hq
    · rcases List.mem_append.mp hp with hp | hp
      · exact List.mem_cons_of_mem _ (List.mem_append_left _ (Fm.part_trans hp hq))
      · exact List.mem_cons_of_mem _ (List.mem_append_right _ (Fm.part_trans hp hq))
/-- behind the walk of f what was whole is whole, and f's parts -/
theorem walk_whole {f : Fm} {acc : List Fm} {n : Nat} (h : Whole n acc) : Whole n (walkP f acc) := fun g hg hs p hp => by
  rcases walk_new f acc g hg with q | q
  · exact walk_sub f acc p (h g q hs p hp)
  · exact walk_has f acc p (Fm.part_trans q hp)
theorem whole_snoc {f : Fm} {acc : List Fm} {n : Nat} (h : Whole n acc) (hf : n < f.size) : Whole n (acc ++ [f]) := fun g hg hs p hp => by
  rcases List.mem_append.mp hg with q | q
  · exact List.mem_append_left _ (h g q hs p hp)
  · have e := List.mem_singleton.mp q
    subst e
    omega
theorem find_walk : ∀ (f : Fm) (acc : List Fm), Whole f.size acc → findP f acc = walkP f acc
  | .sg i, acc, h => by
    by_cases c : Fm.sg i ∈ acc
    · rw [findP_in c, walkP, if_pos c]
    · rw [findP_out c, walkP, if_neg c]; rfl
  | .no g, acc, h => by
    by_cases c : Fm.no g ∈ acc
    · rw [findP_in c, walkP_stay _ _ (h _ c (Nat.le_refl _))]
    · rw [findP_out c, walkP, if_neg c]
      show findP g (acc ++ [Fm.no g]) = _
      exact find_walk g _ (whole_snoc (h.mono (by show g.size ≤ g.size + 1; omega)) (by show g.size < g.size + 1; omega))
  | .bi w g k, acc, h => by
    by_cases c : Fm.bi w g k ∈ acc
    · rw [findP_in c, walkP_stay _ _ (h _ c (Nat.le_refl _))]
    · rw [findP_out c, walkP, if_neg c]
      show findP k (findP g (acc ++ [Fm.bi w g k])) = _
      have sz : (Fm.bi w g k).size = g.size + k.size + 1 := rfl
      have hp := Fm.size_pos g
      have hq := Fm.size_pos k
      have w1 : ∀ m, m ≤ g.size + k.size → Whole m (acc ++ [Fm.bi w g k]) := fun m hm => whole_snoc (h.mono (by omega)) (by omega)
      rw [find_walk g _ (w1 _ (by omega))]
      exact find_walk k _ (walk_whole (w1 _ (by omega)))
theorem whole_nil (n : Nat) : Whole n [] := fun _ h => nomatch h
theorem find_is_walk (f : Fm) : findP f [] = walkP f [] := find_walk f [] (whole_nil _)
theorem findP_len : ∀ (f : Fm) (acc : List Fm), (findP f acc).length ≤ acc.length + f.size
  | .sg i, acc => by
    rw [findP]; split
    · omega
    · rw [List.length_append]; exact Nat.le_refl _
  | .no g, acc => by
    rw [findP]; split
    · omega
    · have := findP_len g (acc ++ [.no g])
      rw [List.length_append] at this
      show _ ≤ acc.length + (g.size + 1)
      have e : [Fm.no g].length = 1 := rfl
      show (findP g (acc ++ [.no g])).length ≤ _
      omega
  | .bi w g k, acc => by
    rw [findP]; split
    · omega
    · have h1 := findP_len g (acc ++ [.bi w g k])
      have h2 := findP_len k (findP g (acc ++ [.bi w g k]))
      rw [List.length_append] at h1
      have e : [Fm.bi w g k].length = 1 := rfl
      show (findP k (findP g (acc ++ [.bi w g k]))).length ≤ acc.length + (g.size + k.size + 1)
      omega
theorem walkP_len : ∀ (f : Fm) (acc : List Fm), (walkP f acc).length ≤ acc.length + f.size
  | .sg i, acc => by
    rw [walkP]; split
    · omega
    · rw [List.length_append]; exact Nat.le_refl _
  | .no g, acc => by
    rw [walkP]
    have := walkP_len g (if Fm.no g ∈ acc then acc else acc ++ [.no g])
    have e : (if Fm.no g ∈ acc then acc else acc ++ [.no g]).length ≤ acc.length + 1 := by
      split
      · omega
      · rw [List.length_append]; exact Nat.le_refl _
    show _ ≤ acc.length + (g.size + 1)
    omega
  | .bi w g k, acc => by
    rw [walkP]
    have h1 := walkP_len g (if Fm.bi w g k ∈ acc then acc else acc ++ [.bi w g k])
    have h2 := walkP_len k (walkP g (if Fm.bi w g k ∈ acc then acc else acc ++ [.bi w g k]))
    have e : (if Fm.bi w g k ∈ acc then acc else acc ++ [.bi w g k]).length ≤ acc.length + 1 := by
      split
      · omega
      · rw [List.length_append]; exact Nat.le_refl _
    show _ ≤ acc.length + (g.size + k.size + 1)
    omega

/-! ### the texts -/
open PySem.Spec
open TL (tl tl_append tl_ofString ext_tl)
def isDig (c : Nat) : Bool := decide (48 ≤ c) && decide (c ≤ 57)
def digs (i : Int) : List Nat := (toString i).toList.map Char.toNat
def valD (l : List Nat) : Int := l.foldl (fun (a : Int) (c : Nat) => a * 10 + ((c : Int) - 48)) 0
/-- the text of a formula -/
def spS : Fm → Str
  | .sg i => (toString i : String)
  | .no f => ((((Str.empty ++ ("not" : Str)) ++ ("(" : Str)) ++ Txt.join ("," : Str) [spS f]) ++ (")" : Str))
  | .bi w f g => ((((Str.empty ++ w.txt) ++ ("(" : Str)) ++ Txt.join ("," : Str) [spS f, spS g]) ++ (")" : Str))
/-- its codes -/
def sp : Fm → List Nat
  | .sg i => digs i
  | .no f => tl ("not" : Str) ++ (40 :: (sp f ++ [41]))
  | .bi w f g => tl w.txt ++ (40 :: (sp f ++ (44 :: (sp g ++ [41]))))
theorem tl_empty : tl Str.empty = [] := rfl
theorem tl_open : tl ("(" : Str) = [40] := by decide +kernel
theorem tl_close : tl (")" : Str) = [41] := by decide +kernel
theorem tl_comma : tl ("," : Str) = [44] := by decide +kernel
theorem spS_tl : ∀ f : Fm, tl (spS f) = sp f
  | .sg i => tl_ofString (toString i)
  | .no f => by
    have h := spS_tl f
    have e : Txt.join ("," : Str) [spS f] = spS f := by rw [TL.join_eq]; rfl
    show tl ((((Str.empty ++ ("not" : Str)) ++ ("(" : Str)) ++ Txt.join ("," : Str) [spS f]) ++ (")" : Str)) = tl ("not" : Str) ++ (40 :: (sp f ++ [41]))
    rw [e, tl_append, tl_append, tl_append, tl_append, tl_empty, tl_open, tl_close, h]
    simp only [List.nil_append, List.append_assoc, List.cons_append]
  | .bi w f g => by
    have h := spS_tl f
    have h2 := spS_tl g
    have e : Txt.join ("," : Str) [spS f, spS g] = (spS f ++ ("," : Str)) ++ spS g := by rw [TL.join_eq]; rfl
    show tl ((((Str.empty ++ w.txt) ++ ("(" : Str)) ++ Txt.join ("," : Str) [spS f, spS g]) ++ (")" : Str)) = tl w.txt ++ (40 :: (sp f ++ (44 :: (sp g ++ [41]))))
    rw [e, tl_append, tl_append, tl_append, tl_append, tl_append, tl_append, tl_empty, tl_open, tl_close, tl_comma, h, h2]
    simp only [List.nil_append, List.append_assoc, List.cons_append]
theorem digs_all : ∀ n : Fin 100, ((digs ((n.val : Nat) : Int)).all isDig && !(digs ((n.val : Nat) : Int)).isEmpty && decide (valD (digs ((n.val : Nat) : Int)) = ((n.val : Nat) : Int)) && decide ((digs ((n.val : Nat) : Int)).length ≤ 2)) = true := by decide +kernel
theorem digs_of {i : Int} (h : 0 ≤ i ∧ i ≤ 99) : (digs i).all isDig = true ∧ (digs i) ≠ [] ∧ valD (digs i) = i ∧ (digs i).length ≤ 2 := by
  obtain ⟨n, rfl⟩ := Int.eq_ofNat_of_zero_le h.1
  have q := digs_all ⟨n, by omega⟩
  simp only [Bool.and_eq_true, decide_eq_true_eq] at q
  obtain ⟨⟨⟨q1, q2⟩, q3⟩, q4⟩ := q
  refine ⟨q1, fun z => ?_, q3, q4⟩
  have z' : digs ((n : Nat) : Int) = [] := z
  rw [z'] at q2
  exact absurd q2 (by decide)
/-- no digit ahead -/
def Nd (r : List Nat) : Prop := r.takeWhile isDig = []
theorem nd_cons {c : Nat} (h : isDig c = false) (r : List Nat) : Nd (c :: r) := by
  unfold Nd
  rw [List.takeWhile_cons, h]
  rfl
theorem take_dig : ∀ {l r : List Nat}, l.all isDig = true → Nd r → (l ++ r).takeWhile isDig = l
  | [], r, _, h => h
  | c :: l, r, h, hr => by
    rw [List.all_cons, Bool.and_eq_true] at h
    rw [List.cons_append, List.takeWhile_cons, h.1, if_pos rfl, take_dig h.2 hr]
theorem head_txt (w : Bw) : ∃ c r, tl w.txt = c :: r ∧ isDig c = false ∧ c ≠ 110 ∧ c = (match w with | .an => 97 | .o => 111 | .th => 116) := by
  cases w
  · exact ⟨97, [110, 100], by decide +kernel, by decide, by decide, rfl⟩
  · exact ⟨111, [114], by decide +kernel, by decide, by decide, rfl⟩
  · exact ⟨116, [104, 101, 110], by decide +kernel, by decide, by decide, rfl⟩
theorem tl_not : tl ("not" : Str) = [110, 111, 116] := by decide +kernel
theorem dig_head {i : Int} (h : 0 ≤ i ∧ i ≤ 99) : ∃ c r, digs i = c :: r ∧ isDig c = true := by
  obtain ⟨h1, h2, _, _⟩ := digs_of h
  cases e : digs i with
  | nil => exact absurd e h2
  | cons c r =>
    rw [e, List.all_cons, Bool.and_eq_true] at h1
    exact ⟨c, r, rfl, h1.1⟩
theorem sp_split : ∀ (f g : Fm) (r r' : List Nat), f.good → g.good → Nd r → Nd r' → sp f ++ r = sp g ++ r' → f = g ∧ r = r'
  | .sg i, .sg j, r, r', hf, hg, hr, hr', e => by
    obtain ⟨a1, _, a3, _⟩ := digs_of hf
    obtain ⟨b1, _, b3, _⟩ := digs_of hg
    have t := congrArg (List.takeWhile isDig) e
    rw [show sp (.sg i) = digs i from rfl, show sp (.sg j) = digs j from rfl, take_dig a1 hr, take_dig b1 hr'] at t
    have ij : i = j := by rw [← a3, ← b3, t]
    subst ij
    exact ⟨rfl, List.append_cancel_left e⟩
  | .no f, .no g, r, r', hf, hg, hr, hr', e => by
    have e1 : tl ("not" : Str) ++ (40 :: (sp f ++ [41])) ++ r = tl ("not" : Str) ++ (40 :: (sp g ++ [41])) ++ r' := e
    simp only [List.append_assoc, List.cons_append] at e1
    have e2 := List.append_cancel_left e1
    have e3 := (List.cons.inj e2).2
    obtain ⟨q1, q2⟩ := sp_split f g _ _ hf hg (nd_cons (by decide) _) (nd_cons (by decide) _) e3
    subst q1
    exact ⟨rfl, by simpa using q2⟩
  | .bi w f g, .bi v f' g', r, r', hf, hg, hr, hr', e => by
    have e1 : tl w.txt ++ (40 :: (sp f ++ (44 :: (sp g ++ [41])))) ++ r = tl v.txt ++ (40 :: (sp f' ++ (44 :: (sp g' ++ [41])))) ++ r' := e
    have hw : w = v := by
      obtain ⟨c, x, h1, _, _, h4⟩ := head_txt w
      obtain ⟨d, y, k1, _, _, k4⟩ := head_txt v
      rw [h1, k1] at e1
      have z := (List.cons.inj e1).1
      rw [h4, k4] at z
      cases w <;> cases v <;> first | rfl | exact absurd z (by decide)
    subst hw
    simp only [List.append_assoc, List.cons_append] at e1
    have e3 := (List.cons.inj (List.append_cancel_left e1)).2
    obtain ⟨q1, q2⟩ := sp_split f f' _ _ hf.1 hg.1 (nd_cons (by decide) _) (nd_cons (by decide) _) e3
    subst q1
    have e4 := (List.cons.inj q2).2
    obtain ⟨p1, p2⟩ := sp_split g g' _ _ hf.2 hg.2 (nd_cons (by decide) _) (nd_cons (by decide) _) e4
    subst p1
    exact ⟨rfl, by simpa using p2⟩
  | .sg i, .no g, r, r', hf, hg, hr, hr', e => by
    obtain ⟨c, x, h1, h2⟩ := dig_head hf
    rw [show sp (.sg i) = digs i from rfl, show sp (.no g) = tl ("not" : Str) ++ (40 :: (sp g ++ [41])) from rfl, h1, tl_not] at e
    have z := (List.cons.inj e).1
    rw [z] at h2
    exact absurd h2 (by decide)
  | .no g, .sg i, r, r', hg, hf, hr, hr', e => by
    obtain ⟨c, x, h1, h2⟩ := dig_head hf
    rw [show sp (.sg i) = digs i from rfl, show sp (.no g) = tl ("not" : Str) ++ (40 :: (sp g ++ [41])) from rfl, h1, tl_not] at e
    have z := (List.cons.inj e).1
    rw [← z] at h2
    exact absurd h2 (by decide)
  | .sg i, .bi w f g, r, r', hf, hg, hr, hr', e => by
    obtain ⟨c, x, h1, h2⟩ := dig_head hf
    obtain ⟨d, y, k1, k2, _, _⟩ := head_txt w
    rw [show sp (.sg i) = digs i from rfl, show sp (.bi w f g) = tl w.txt ++ (40 :: (sp f ++ (44 :: (sp g ++ [41])))) from rfl, h1, k1] at e
    have z := (List.cons.inj e).1
    rw [z, k2] at h2
    cases h2
  | .bi w f g, .sg i, r, r', hg, hf, hr, hr', e => by
    obtain ⟨c, x, h1, h2⟩ := dig_head hf
    obtain ⟨d, y, k1, k2, _, _⟩ := head_txt w
    rw [show sp (.sg i) = digs i from rfl, show sp (.bi w f g) = tl w.txt ++ (40 :: (sp f ++ (44 :: (sp g ++ [41])))) from rfl, h1, k1] at e
    have z := (List.cons.inj e).1
    rw [← z, k2] at h2
    cases h2
  | .no f', .bi w f g, r, r', hf, hg, hr, hr', e => by
    obtain ⟨d, y, k1, _, k3, _⟩ := head_txt w
    rw [show sp (.no f') = tl ("not" : Str) ++ (40 :: (sp f' ++ [41])) from rfl, show sp (.bi w f g) = tl w.txt ++ (40 :: (sp f ++ (44 :: (sp g ++ [41])))) from rfl, tl_not, k1] at e
    exact absurd (List.cons.inj e).1.symm k3
  | .bi w f g, .no f', r, r', hf, hg, hr, hr', e => by
    obtain ⟨d, y, k1, _, k3, _⟩ := head_txt w
    rw [show sp (.no f') = tl ("not" : Str) ++ (40 :: (sp f' ++ [41])) from rfl, show sp (.bi w f g) = tl w.txt ++ (40 :: (sp f ++ (44 :: (sp g ++ [41])))) from rfl, tl_not, k1] at e
    exact absurd (List.cons.inj e).1 k3
theorem spS_inj {f g : Fm} (hf : f.good) (hg : g.good) (e : spS f = spS g) : f = g := by
  have e1 : sp f ++ [] = sp g ++ [] := by rw [← spS_tl, ← spS_tl, e]
  exact (sp_split f g [] [] hf hg rfl rfl e1).1
theorem txt_len (w : Bw) : (tl w.txt).length ≤ 4 := by cases w <;> decide +kernel
theorem sp_len : ∀ {f : Fm}, f.good → (sp f).length + 7 ≤ 9 * 2 ^ (f.dep - 1)
  | .sg i, h => by
    have q := (digs_of h).2.2.2
    show (digs i).length + 7 ≤ 9 * 2 ^ (1 - 1)
    simp only [Nat.sub_self, Nat.pow_zero]
    omega
  | .no f, h => by
    have q := sp_len (f := f) h
    have hp := Fm.dep_pos f
    have e : f.dep + 1 - 1 = (f.dep - 1) + 1 := by omega
    show (tl ("not" : Str) ++ (40 :: (sp f ++ [41]))).length + 7 ≤ 9 * 2 ^ (f.dep + 1 - 1)
    rw [e, Nat.pow_succ, tl_not]
    simp only [List.length_append, List.length_cons, List.length_nil]
    have pos : 1 ≤ 2 ^ (f.dep - 1) := Nat.one_le_two_pow
    omega
  | .bi w f g, h => by
    have q1 := sp_len (f := f) h.1
    have q2 := sp_len (f := g) h.2
    have hp := Fm.dep_pos f
    have hq := Fm.dep_pos g
    have m1 : 2 ^ (f.dep - 1) ≤ 2 ^ (max f.dep g.dep - 1) := Nat.pow_le_pow_right (by decide) (by omega)
    have m2 : 2 ^ (g.dep - 1) ≤ 2 ^ (max f.dep g.dep - 1) := Nat.pow_le_pow_right (by decide) (by omega)
    have e : max f.dep g.dep + 1 - 1 = (max f.dep g.dep - 1) + 1 := by omega
    have t := txt_len w
    show (tl w.txt ++ (40 :: (sp f ++ (44 :: (sp g ++ [41]))))).length + 7 ≤ 9 * 2 ^ (max f.dep g.dep + 1 - 1)
    rw [e, Nat.pow_succ]
    simp only [List.length_append, List.length_cons, List.length_nil]
    omega
theorem spS_len {f : Fm} (h : f.good) (hd : f.dep ≤ 12) : (spS f).length ≤ 18500 := by
  have q := sp_len h
  have m : 2 ^ (f.dep - 1) ≤ 2 ^ 11 := Nat.pow_le_pow_right (by decide) (by omega)
  rw [TL.len_tl, spS_tl]
  have e : (2 : Nat) ^ 11 = 2048 := by decide
  omega
end Lm
set_option Elab.async false
set_option linter.all false
set_option maxRecDepth 100000
set_option maxHeartbeats 2000000
/-! formulas in the heap, rules that lacked, promises of the program's defs -/
namespace Lm
open PySem PySem.Spec PyProof.Rows L2

/-! ### heaps -/
theorem sqT_same {K : PySem.W.Frag} {H H' : Hp} {a : Addr} {xs : List V} (e : Same H H') (h : SqT K H a xs) : SqT K H' a xs := by
  rcases h with (h | ⟨o, h⟩) | h
  · exact .inl (.inl (e _ _ h))
  · exact .inl (.inr ⟨o, e _ _ h⟩)
  · exact .inr h
theorem same_new {H : Hp} {p : Addr} (h : H p = none) (o : HO) : Same H (upd H p o) := fun b u q => by rw [upd_ne (ne_of_none q h)]; exact q
theorem same_upd {H1 H : Hp} {D : Addr} {o : HO} (e : Same H1 H) (n : H1 D = none) : Same H1 (upd H D o) := fun b u q => by
  rw [upd_ne (ne_of_none q n)]
  exact e b u q
/-- all but what stands at a is as it was -/
def But (a : Addr) (H H' : Hp) : Prop := ∀ b o, H b = some o → b ≠ a → H' b = some o
theorem But.refl (a : Addr) (H : Hp) : But a H H := fun _ _ h _ => h
theorem But.trans {a : Addr} {H H1 H2 : Hp} (x : But a H H1) (y : But a H1 H2) : But a H H2 := fun b o h n => y b o (x b o h n) n
theorem Same.but {H H' : Hp} (e : Same H H') (a : Addr) : But a H H' := fun b o h _ => e b o h
theorem But.upd (a : Addr) (H : Hp) (o : HO) : But a H (upd H a o) := fun b u h n => by rw [upd_ne n]; exact h
/-- the tuples stand -/
def Tk (K : PySem.W.Frag) (H H' : Hp) : Prop := ∀ b xs, SqT K H b xs → SqT K H' b xs
theorem Tk.of_same {K : PySem.W.Frag} {H H' : Hp} (e : Same H H') : Tk K H H' := fun _ _ h => sqT_same e h
theorem Tk.of_but {K : PySem.W.Frag} {H H' : Hp} {a : Addr} (e : But a H H') (h : (∃ xs, H a = some (.lst xs)) ∨ (∃ kvs, H a = some (.dK kvs)) ∨ H a = none) : Tk K H H' := fun b xs q => by
  have nt : ∀ ys, H a ≠ some (.tup ys) := fun ys z => by
    rcases h with ⟨x, h⟩ | ⟨x, h⟩ | h <;> (rw [h] at z; cases z)
  have nf : ∀ o ys, H a ≠ some (.frz o (.tup ys)) := fun o ys z => by
    rcases h with ⟨x, h⟩ | ⟨x, h⟩ | h <;> (rw [h] at z; cases z)
  rcases q with (q | ⟨o, q⟩) | q
  · exact .inl (.inl (e _ _ q fun z => nt xs (z ▸ q)))
  · exact .inl (.inr ⟨o, e _ _ q fun z => nf o xs (z ▸ q)⟩)
  · exact .inr q

/-! ### data in the heap -/
mutual
theorem dp_same {K : PySem.W.Frag} {H H' : Hp} (e : Same H H') : ∀ (d : PyData) (v : V), Dp K H v d → Dp K H' v d
  | .none, _, h => by cases h; exact .non
  | .bool b, _, h => by cases h; exact .bl b
  | .int i, _, h => by cases h; exact .int i
  | .str x, _, h => by cases h; exact .str x
  | .list ds, _, h => by
    cases h with
    | lst hs ha => exact .lst (e.seq hs) (dpAll_same e ds _ ha)
  | .tuple ds, _, h => by
    cases h with
    | tup hs ha => exact .tup (sqT_same e hs) (dpAll_same e ds _ ha)
  | .dict _, _, h => by cases h
theorem dpAll_same {K : PySem.W.Frag} {H H' : Hp} (e : Same H H') : ∀ (ds : List PyData) (vs : List V), DpAll K H vs ds → DpAll K H' vs ds
  | [], _, h => by cases h; exact .nil
  | d :: ds, _, h => by
    cases h with
    | cons h1 h2 => exact .cons (dp_same e d _ h1) (dpAll_same e ds _ h2)
end
theorem dpAll_len {K : PySem.W.Frag} {H : Hp} : ∀ {ds : List PyData} {vs : List V}, DpAll K H vs ds → vs.length = ds.length
  | [], _, h => by cases h; rfl
  | d :: ds, _, h => by
    cases h with
    | cons h1 h2 => rw [List.length_cons, List.length_cons, dpAll_len h2]
theorem dpAll_get {K : PySem.W.Frag} {H : Hp} : ∀ {ds : List PyData} {vs : List V} {i : Nat} {v : V}, DpAll K H vs ds → vs[i]? = some v → ∃ d, ds[i]? = some d ∧ Dp K H v d
  | [], _, i, v, h, e => by cases h; cases e
  | d :: ds, _, 0, v, h, e => by
    cases h with
    | cons h1 h2 => exact ⟨d, rfl, (Option.some.inj e) ▸ h1⟩
  | d :: ds, _, i + 1, v, h, e => by
    cases h with
    | cons h1 h2 => exact dpAll_get (i := i) h2 e
theorem dpAll_app {K : PySem.W.Frag} {H : Hp} : ∀ {ds es : List PyData} {vs ws : List V}, DpAll K H vs ds → DpAll K H ws es → DpAll K H (vs ++ ws) (ds ++ es)
  | [], _, _, _, h, k => by cases h; exact k
  | d :: ds, es, _, ws, h, k => by
    cases h with
    | cons h1 h2 => exact .cons h1 (dpAll_app h2 k)
theorem dpAll_ints {K : PySem.W.Frag} {H : Hp} : ∀ ns : List Int, DpAll K H (ns.map V.int) (ns.map PyData.int)
  | [] => .nil
  | n :: ns => .cons (.int n) (dpAll_ints ns)
/-! formulas -/
section
variable {K : PySem.W.Frag} {H H' : Hp} {v : V}
theorem dp_sg {i : Int} (h : Dp K H v (Fm.sg i).toD) : ∃ a, v = .ref a ∧ SqT K H a [.str ("sign" : Str), .int i] := by
  have h : Dp K H v (.tuple [.str ("sign" : Str), .int i]) := h
  cases h with
  | tup hs ha =>
    cases ha with
    | cons h1 h2 =>
      cases h1
      cases h2 with
      | cons h3 h4 =>
        cases h3
        cases h4
        exact ⟨_, rfl, hs⟩
theorem dp_no {f : Fm} (h : Dp K H v (Fm.no f).toD) : ∃ a x, v = .ref a ∧ SqT K H a [.str ("not" : Str), x] ∧ Dp K H x f.toD := by
  have h : Dp K H v (.tuple [.str ("not" : Str), f.toD]) := h
  cases h with
  | tup hs ha =>
    cases ha with
    | cons h1 h2 =>
      cases h1
      cases h2 with
      | cons h3 h4 =>
        cases h4
        exact ⟨_, _, rfl, hs, h3⟩
theorem dp_bi {w : Bw} {f g : Fm} (h : Dp K H v (Fm.bi w f g).toD) : ∃ a x y, v = .ref a ∧ SqT K H a [.str w.txt, x, y] ∧ Dp K H x f.toD ∧ Dp K H y g.toD := by
  have h : Dp K H v (.tuple [.str w.txt, f.toD, g.toD]) := h
  cases h with
  | tup hs ha =>
    cases ha with
    | cons h1 h2 =>
      cases h1
      cases h2 with
      | cons h3 h4 =>
        cases h4 with
        | cons h5 h6 =>
          cases h6
          exact ⟨_, _, _, rfl, hs, h3, h5⟩
theorem mk_sg {a : Addr} {i : Int} (h : SqT K H a [.str ("sign" : Str), .int i]) : Dp K H (.ref a) (Fm.sg i).toD := .tup h (.cons (.str _) (.cons (.int _) .nil))
theorem mk_no {a : Addr} {x : V} {f : Fm} (h : SqT K H a [.str ("not" : Str), x]) (hx : Dp K H x f.toD) : Dp K H (.ref a) (Fm.no f).toD := .tup h (.cons (.str _) (.cons hx .nil))
theorem mk_bi {a : Addr} {w : Bw} {x y : V} {f g : Fm} (h : SqT K H a [.str w.txt, x, y]) (hx : Dp K H x f.toD) (hy : Dp K H y g.toD) : Dp K H (.ref a) (Fm.bi w f g).toD := .tup h (.cons (.str _) (.cons hx (.cons hy .nil)))
/-- a formula stands while the tuples stand -/
theorem fm_keep (t : Tk K H H') : ∀ (f : Fm) (v : V), Dp K H v f.toD → Dp K H' v f.toD
  | .sg i, v, h => by
    obtain ⟨a, rfl, hs⟩ := dp_sg h
    exact mk_sg (t _ _ hs)
  | .no f, v, h => by
    obtain ⟨a, x, rfl, hs, hx⟩ := dp_no h
    exact mk_no (t _ _ hs) (fm_keep t f x hx)
  | .bi w f g, v, h => by
    obtain ⟨a, x, y, rfl, hs, hx, hy⟩ := dp_bi h
    exact mk_bi (t _ _ hs) (fm_keep t f x hx) (fm_keep t g y hy)
theorem fms_keep (t : Tk K H H') : ∀ (fs : List Fm) (vs : List V), DpAll K H vs (fs.map Fm.toD) → DpAll K H' vs (fs.map Fm.toD)
  | [], _, h => by cases h; exact .nil
  | f :: fs, _, h => by
    have h : DpAll K H _ (f.toD :: fs.map Fm.toD) := h
    cases h with
    | cons h1 h2 => exact .cons (fm_keep t f _ h1) (fms_keep t fs _ h2)
end

/-! ### what a thing is -/
def tyD : PyData → String
  | .none => "NoneType"
  | .bool _ => "bool"
  | .int _ => "int"
  | .str _ => "str"
  | .list _ => "list"
  | .tuple _ => "tuple"
  | .dict _ => "dict"
theorem tyx_of {K : PySem.W.Frag} {H : Hp} {v : V} {d : PyData} (h : Dp K H v d) : TyX K H v (.type (tyD d)) := by
  cases h with
  | non => exact .base .non
  | bl b => exact .base (.bl b)
  | int i => exact .base (.int i)
  | str x => exact .base (.str x)
  | lst hs _ =>
    rcases hs with (hs | ⟨o, hs⟩) | ⟨o, its, n, hk, hc, _⟩
    · exact .base (.lst hs)
    · exact .base (.frz hs)
    · exact .kList hk hc
  | tup hs _ =>
    rcases hs with (hs | ⟨o, hs⟩) | ⟨o, its, n, hk, hc, _⟩
    · exact .base (.tup hs)
    · exact .fTuple hs
    · exact .kTuple hk hc
def isIB : PyData → Bool
  | .int _ => true
  | .bool _ => true
  | _ => false
def isBl : PyData → Bool
  | .bool _ => true
  | _ => false
def isSt : PyData → Bool
  | .str _ => true
  | _ => false
def isTu : PyData → Bool
  | .tuple _ => true
  | _ => false
def isLi : PyData → Bool
  | .list _ => true
  | _ => false
theorem kit_int {K : PySem.W.Frag} {H : Hp} {v : V} {d : PyData} (h : Dp K H v d) : PySem.W.kitOne K (.type (tyD d)) (.type "int") = some (isIB d) := by
  cases h with
  | non => exact kit_ty (show kitB "NoneType" "int" = some false from by decide +kernel)
  | bl b => exact kit_ty (show kitB "bool" "int" = some true from by decide +kernel)
  | int i => exact kit_ty (show kitB "int" "int" = some true from by decide +kernel)
  | str x => exact kit_ty (show kitB "str" "int" = some false from by decide +kernel)
  | lst _ _ => exact kit_ty (show kitB "list" "int" = some false from by decide +kernel)
  | tup _ _ => exact kit_ty (show kitB "tuple" "int" = some false from by decide +kernel)
theorem kit_bool {K : PySem.W.Frag} {H : Hp} {v : V} {d : PyData} (h : Dp K H v d) : PySem.W.kitOne K (.type (tyD d)) (.type "bool") = some (isBl d) := by
  cases h with
  | non => exact kit_ty (show kitB "NoneType" "bool" = some false from by decide +kernel)
  | bl b => exact kit_ty (show kitB "bool" "bool" = some true from by decide +kernel)
  | int i => exact kit_ty (show kitB "int" "bool" = some false from by decide +kernel)
  | str x => exact kit_ty (show kitB "str" "bool" = some false from by decide +kernel)
  | lst _ _ => exact kit_ty (show kitB "list" "bool" = some false from by decide +kernel)
  | tup _ _ => exact kit_ty (show kitB "tuple" "bool" = some false from by decide +kernel)
theorem kit_str {K : PySem.W.Frag} {H : Hp} {v : V} {d : PyData} (h : Dp K H v d) : PySem.W.kitOne K (.type (tyD d)) (.type "str") = some (isSt d) := by
  cases h with
  | non => exact kit_ty (show kitB "NoneType" "str" = some false from by decide +kernel)
  | bl b => exact kit_ty (show kitB "bool" "str" = some false from by decide +kernel)
  | int i => exact kit_ty (show kitB "int" "str" = some false from by decide +kernel)
  | str x => exact kit_ty (show kitB "str" "str" = some true from by decide +kernel)
  | lst _ _ => exact kit_ty (show kitB "list" "str" = some false from by decide +kernel)
  | tup _ _ => exact kit_ty (show kitB "tuple" "str" = some false from by decide +kernel)
theorem kit_tuple {K : PySem.W.Frag} {H : Hp} {v : V} {d : PyData} (h : Dp K H v d) : PySem.W.kitOne K (.type (tyD d)) (.type "tuple") = some (isTu d) := by
  cases h with
  | non => exact kit_ty (show kitB "NoneType" "tuple" = some false from by decide +kernel)
  | bl b => exact kit_ty (show kitB "bool" "tuple" = some false from by decide +kernel)
  | int i => exact kit_ty (show kitB "int" "tuple" = some false from by decide +kernel)
  | str x => exact kit_ty (show kitB "str" "tuple" = some false from by decide +kernel)
  | lst _ _ => exact kit_ty (show kitB "list" "tuple" = some false from by decide +kernel)
  | tup _ _ => exact kit_ty (show kitB "tuple" "tuple" = some true from by decide +kernel)
theorem kit_list {K : PySem.W.Frag} {H : Hp} {v : V} {d : PyData} (h : Dp K H v d) : PySem.W.kitOne K (.type (tyD d)) (.type "list") = some (isLi d) := by
  cases h with
  | non => exact kit_ty (show kitB "NoneType" "list" = some false from by decide +kernel)
  | bl b => exact kit_ty (show kitB "bool" "list" = some false from by decide +kernel)
  | int i => exact kit_ty (show kitB "int" "list" = some false from by decide +kernel)
  | str x => exact kit_ty (show kitB "str" "list" = some false from by decide +kernel)
  | lst _ _ => exact kit_ty (show kitB "list" "list" = some true from by decide +kernel)
  | tup _ _ => exact kit_ty (show kitB "tuple" "list" = some false from by decide +kernel)

/-! ### rules that lacked -/
/-- list(d.values()) -/
def tListVals (te : TE) : TE := fun σ H Q => te σ H fun x H1 => ∃ (d : Addr) (kvs : List (Key × V)), x = .ref d ∧ H1 d = some (.dK kvs) ∧ ∀ p, H1 p = none → Q (.ref p) (upd H1 p (.lst (kvs.map (·.2))))
theorem kv_vals : ∀ {kvs : List (Key × V)} {vs : List (Key × Value)}, KV kvs vs → Vals (kvs.map (·.2)) (vs.map (·.2))
  | _, _, .nil => .nil
  | _, _, .cons h t => .cons h.2 (kv_vals t)
section
variable {X : Cx} {e : Expr} {te : TE} {p apos cpos pos : Pos}
theorem pe_listVals (hc : X.calm = true) (he : PE X e te) (hg : Gl X "list") (hm : X.mg "list" = none) (hv : bootBuiltins "list" = some (.type "list")) (hbase : attributeBase e "values" X.env (eval e X.env) = eval e X.env := by rfl) (hline : (apos.endLine == cpos.line) = true := by rfl)
    (hs : starEach [.Call (.Attribute e "values" apos) [] [] cpos] X.env = (false, eval (.Call (.Attribute e "values" apos) [] [] cpos) X.env) :: starEach [] X.env := by rfl) :
    PE X (.Call (.Name "list" p) [.Call (.Attribute e "values" apos) [] [] cpos] [] pos) (tListVals te) := by
  refine ⟨fun pins s σ H Q I hq => ?_⟩
  refine wpAny_Call_Name_kw (ld_blt I hg hm hv ?_)
  refine PyProof.Rows.callWith_type1 ?_ hs rfl
  rw [hs]
  show wpAny _ _ (spliced ((false, eval (.Call (.Attribute e "values" apos) [] [] cpos) X.env) :: backTo pos (starEach [] X.env))) _ _ s
  refine Calls.spliced_cons ?_
  refine wpAny_Call_method (T := "dict") (id := "dict.values") hbase rfl hline F.plainAttrs_dict F.slot_dict_values F.type_dict_values (thn (he.run pins s σ H _ I hq) fun u s1 ⟨x, H1, I1, rx, d, kvs, ex, hd, q⟩ => ?_)
  subst ex
  obtain rfl : u = Value.ref d := rx
  obtain ⟨hz, hs0, vs, kv, hdo⟩ := I1.hok d _ hd
  obtain ⟨ep, hat⟩ := hdo.dictAt
  have lk : kvs.length = vs.length := Paired.length kv
  have I2 : Inv X pins σ H1 { s1 with heap := s1.heap.push { cls := .type "dict_values", data := .fields #[.ref d] } } := I1.kept (t' := s1.toks) fun b ob q => Heap.get?_push_of_some _ q
  refine ⟨hdo.typeIs, hdo.mapOf.noDict, ?_⟩
  show wpAny _ _ (callWith cpos (.builtin "dict.values") [.ref d] [] []) _ X.xe s1
  refine method_meetsIn F.slot_dict_values F.entry_dict_values rfl (PySem.evalArgs_none ⟨rfl, hdo.typeIs, F.args_dict_values_1 _, _, meets_dict_values (mixKind X.prog X.w) d hs0, ⟨vs, hdo⟩, ?_⟩)
  refine Calls.spliced_nil ?_
  refine PySem.W.kdl_call (PySem.W.kdl_values (knd := mixKind X.prog X.w) (kvs := vs) (ep := ep) (d := d)) (I1.ok.hd hc) ⟨⟨_, Heap.get?_push_size _ rfl, rfl, rfl⟩, hat.push _⟩ (by omega) fun h' tk acc c hk hS hacc => ?_
  have e0 : acc.toList = vs.map (·.2) := PySem.W.kdl_vals_eq acc.toList (by rw [Array.length_toList]; exact hacc.1) fun j v ev => hacc.2 j v (by rw [← Array.getElem?_toList]; exact ev)
  have ob : ObjOk X.prog X.w (upd H1 (s1.heap.push { cls := .type "dict_values", data := .fields #[.ref d] }).objs.size (.lst (kvs.map (·.2)))) h' (s1.heap.push { cls := .type "dict_values", data := .fields #[.ref d] }).objs.size (.lst (kvs.map (·.2))) := by
    refine ⟨by rw [List.length_map]; omega, acc.toList, c, by rw [e0]; exact kv_vals kv, ?_⟩
    rw [Array.toArray_toList]
    exact hS
  exact ⟨.ref _, _, I2.laid (t' := tk) hk (Nat.le_refl _) ob, rfl, q _ (I2.hok.fresh (Nat.le_refl _))⟩
end
/-- a dict comprehension over a list that stays -/
theorem dc_list {K : PySem.W.Frag} {a : Addr} {xs : List V} {g : TG} {tt : TT} {tk tv : TE} {vs : List Nat} {σ : L2.St} {H1 : Hp} {D : Addr} {Qd : Hp → Prop} (Pv : Nat → Hp → Prop) (h0 : Pv 0 (upd H1 D (.dK []))) (hl : ∀ i H, i ≤ xs.length → Pv i H → SqL K H a xs)
    (hs : ∀ i x H, xs[i]? = some x → Pv i H → g x (wipe σ vs) H fun σ2 H2 => wipe σ2 vs = wipe σ vs ∧ tt σ2 H2 fun b H3 =>
      if b = true then tk σ2 H3 fun y H4 => tv σ2 H4 fun z H5 => ∃ kvs k, y = kV k ∧ H5 D = some (.dK kvs) ∧ kvs.length < sizeLine ∧ Pv (i + 1) (upd H5 D (.dK (putK kvs k z))) else Pv (i + 1) H3) (hd : ∀ H, Pv xs.length H → Qd H) :
    ∃ W : Nat → Nat → Hp → Prop, (∃ m, W 0 m (upd H1 D (.dK []))) ∧ ∀ i m H, W i m H →
      ((Itl K a).stop i H ∧ Qd H) ∨ ((Itl K a).go i H ∧ ∃ Nx : Hp → Prop, (∀ H', Nx H' → ∃ m', m' < m ∧ W (i + 1) m' H') ∧ ∀ x H', (Itl K a).yld i H x H' → g x (wipe σ vs) H' fun σ2 H2 => wipe σ2 vs = wipe σ vs ∧ tt σ2 H2 fun b H3 =>
        if b = true then tk σ2 H3 fun y H4 => tv σ2 H4 fun z H5 => ∃ kvs k, y = kV k ∧ H5 D = some (.dK kvs) ∧ kvs.length < sizeLine ∧ Nx (upd H5 D (.dK (putK kvs k z))) else Nx H3) := by
  refine ⟨fun i m H => m = xs.length - i ∧ i ≤ xs.length ∧ Pv i H, ⟨xs.length, by simp, Nat.zero_le _, h0⟩, ?_⟩
  rintro i m H ⟨rfl, hi, p⟩
  have q := hl i H hi p
  by_cases hlt : i < xs.length
  · refine .inr ⟨⟨xs, xs[i], q, by simp [hlt]⟩, Pv (i + 1), fun H' p' => ⟨xs.length - (i + 1), by omega, rfl, hlt, p'⟩, fun x H' y => ?_⟩
    obtain ⟨e, y⟩ := y
    subst e
    exact hs i x _ (y xs q) p
  · have e : i = xs.length := by omega
    subst e
    exact .inl ⟨⟨xs, q, Nat.le_refl _⟩, hd H p⟩
theorem wipe1 (σ : L2.St) (j : Nat) (x : Option V) : wipe ((wipe σ [j]).set j x) [j] = wipe σ [j] := by
  show (((σ.set j none).set j x).set j none) = σ.set j none
  rw [List.set_set, List.set_set]
/-- [e for x in t], t a tuple, where each item gives its value and nothing that stood is changed -/
theorem lc_map_tup {K : PySem.W.Frag} {a : Addr} {xs ys : List V} {te : TE} {j : Nat} {σ : L2.St} {H1 : Hp} {D : Addr} {Qd : Hp → Prop} (hx : SqT K H1 a xs) (hD : H1 D = none) (hl : ys.length = xs.length) (hz : ys.length ≤ sizeLine)
    (el : ∀ (i : Nat) (x y : V) (H' : Hp), xs[i]? = some x → ys[i]? = some y → Same H1 H' → ∀ Q : VK, (∀ H'', Same H' H'' → Q y H'') → te ((wipe σ [j]).set j (some x)) H' Q)
    (hd : ∀ H', Same H1 H' → H' D = some (.lst ys) → Qd H') :
    ∃ W : Nat → Nat → Hp → Prop, (∃ m, W 0 m (upd H1 D (.lst []))) ∧ ∀ i m H, W i m H →
      ((Itt K a).stop i H ∧ Qd H) ∨ ((Itt K a).go i H ∧ ∃ Nx : Hp → Prop, (∀ H', Nx H' → ∃ m', m' < m ∧ W (i + 1) m' H') ∧ ∀ x H', (Itt K a).yld i H x H' → gName j x (wipe σ [j]) H' fun σ2 H2 => wipe σ2 [j] = wipe σ [j] ∧ tYes σ2 H2 fun b H3 =>
        if b = true then te σ2 H3 fun y H4 => ∃ acc, H4 D = some (.lst acc) ∧ acc.length < sizeLine ∧ Nx (upd H4 D (.lst (acc ++ [y]))) else Nx H3) := by
  refine lc_tup (K := K) (a := a) (xs := xs) (fun i H => Same H1 H ∧ H D = some (.lst (ys.take i))) ⟨same_new hD _, by rw [upd_same]; rfl⟩ (fun i H _ p => sqT_same p.1 hx) (fun i x H hi p => ?_) (fun H p => ?_)
  · have hi2 : i < xs.length := (List.getElem?_eq_some_iff.mp hi).1
    have hy : ys[i]? = some ys[i] := List.getElem?_eq_getElem (by omega)
    refine ⟨wipe1 _ _ _, ?_⟩
    show te ((wipe σ [j]).set j (some x)) H _
    refine el i x _ H hi hy p.1 _ fun H'' e => ?_
    refine ⟨ys.take i, e _ _ p.2, by rw [List.length_take]; omega, same_upd (p.1.trans e) hD, ?_⟩
    rw [upd_same, List.take_succ, hy]
    rfl
  · obtain ⟨p1, p2⟩ := p
    rw [← hl, List.take_length] at p2
    exact hd H p1 p2
/-- .. a list -/
theorem lc_map_list {K : PySem.W.Frag} {a : Addr} {xs ys : List V} {te : TE} {j : Nat} {σ : L2.St} {H1 : Hp} {D : Addr} {Qd : Hp → Prop} (hx : SqL K H1 a xs) (hD : H1 D = none) (hl : ys.length = xs.length) (hz : ys.length ≤ sizeLine)
    (el : ∀ (i : Nat) (x y : V) (H' : Hp), xs[i]? = some x → ys[i]? = some y → Same H1 H' → ∀ Q : VK, (∀ H'', Same H' H'' → Q y H'') → te ((wipe σ [j]).set j (some x)) H' Q)
    (hd : ∀ H', Same H1 H' → H' D = some (.lst ys) → Qd H') :
    ∃ W : Nat → Nat → Hp → Prop, (∃ m, W 0 m (upd H1 D (.lst []))) ∧ ∀ i m H, W i m H →
      ((Itl K a).stop i H ∧ Qd H) ∨ ((Itl K a).go i H ∧ ∃ Nx : Hp → Prop, (∀ H', Nx H' → ∃ m', m' < m ∧ W (i + 1) m' H') ∧ ∀ x H', (Itl K a).yld i H x H' → gName j x (wipe σ [j]) H' fun σ2 H2 => wipe σ2 [j] = wipe σ [j] ∧ tYes σ2 H2 fun b H3 =>
        if b = true then te σ2 H3 fun y H4 => ∃ acc, H4 D = some (.lst acc) ∧ acc.length < sizeLine ∧ Nx (upd H4 D (.lst (acc ++ [y]))) else Nx H3) := by
  refine lc_list (K := K) (a := a) (xs := xs) (fun i H => Same H1 H ∧ H D = some (.lst (ys.take i))) ⟨same_new hD _, by rw [upd_same]; rfl⟩ (fun i H _ p => p.1.seq hx) (fun i x H hi p => ?_) (fun H p => ?_)
  · have hi2 : i < xs.length := (List.getElem?_eq_some_iff.mp hi).1
    have hy : ys[i]? = some ys[i] := List.getElem?_eq_getElem (by omega)
    refine ⟨wipe1 _ _ _, ?_⟩
    show te ((wipe σ [j]).set j (some x)) H _
    refine el i x _ H hi hy p.1 _ fun H'' e => ?_
    refine ⟨ys.take i, e _ _ p.2, by rw [List.length_take]; omega, same_upd (p.1.trans e) hD, ?_⟩
    rw [upd_same, List.take_succ, hy]
    rfl
  · obtain ⟨p1, p2⟩ := p
    rw [← hl, List.take_length] at p2
    exact hd H p1 p2
theorem sl1000 {n : Nat} (h : n ≤ 100000) : n ≤ sizeLine := Nat.le_trans h (by rw [sizeLine_eq]; decide)
theorem sl1001 {n : Nat} (h : n < 100000) : n < sizeLine := Nat.lt_of_lt_of_le h (by rw [sizeLine_eq]; decide)
theorem cut1 (x y : V) : cutV [x, y] (some 1) none = [y] := rfl
theorem cut2 (x y z : V) : cutV [x, y, z] (some 1) none = [y, z] := rfl
theorem cut1a (x : V) (xs : List V) : cutV (x :: xs) (some 1) none = xs := by
  unfold cutV
  have e1 : HT.sIx (x :: xs).length 0 (some 1) = 1 := by
    rw [show (some (1 : Int)) = some ((1 : Nat) : Int) from rfl, HT.sIx_nat, List.length_cons]
    omega
  have e2 : HT.sIx (x :: xs).length (x :: xs).length none = (x :: xs).length := rfl
  rw [e1, e2, List.length_cons, List.drop_succ_cons, List.drop_zero, Nat.add_sub_cancel, List.take_length]
theorem cutNot (x : V) (xs : List V) : ¬ (HT.sIx (x :: xs).length 0 (some 1) = 0 ∧ HT.sIx (x :: xs).length (x :: xs).length none = (x :: xs).length) := by
  intro z
  have e1 : HT.sIx (x :: xs).length 0 (some 1) = 1 := by
    rw [show (some (1 : Int)) = some ((1 : Nat) : Int) from rfl, HT.sIx_nat, List.length_cons]
    omega
  rw [e1] at z
  exact absurd z.1 (by decide)
end Lm
set_option Elab.async false
set_option linter.all false
set_option maxRecDepth 100000
set_option maxHeartbeats 2000000
namespace Lm
open PySem PySem.Spec PyProof.Rows L2
/-! ### what is a formula: the mirror of is_formula -/
def isNum : PyData → Bool
  | .int _ => true
  | _ => false
def isSg : PyData → Bool
  | .int i => decide (0 ≤ i) && decide (i ≤ 99)
  | _ => false
def arOf (x : Str) : Option Int :=
  if x = ("not" : Str) then some 1 else if x = ("and" : Str) then some 2 else if x = ("or" : Str) then some 2 else if x = ("then" : Str) then some 2 else none
def sgOf : List PyData → Bool
  | [d] => isSg d
  | _ => false
def isF : Nat → PyData → Bool
  | n + 1, .tuple (.str x :: ds) =>
    if x = ("sign" : Str) then sgOf ds
    else match arOf x with
      | none => false
      | some k => decide (((ds.length + 1 : Nat) : Int) = 1 + k) && (ds.map (isF n)).all id
  | _, _ => false
theorem isF_zero (d : PyData) : isF 0 d = false := by cases d <;> rfl
theorem isF_toD : ∀ (f : Fm) (n : Nat), f.good → f.dep ≤ n → isF n f.toD = true
  | .sg i, n, h, hd => by
    cases n with
    | zero => exact absurd hd (by show ¬ 1 ≤ 0; decide)
    | succ n =>
      show (if ("sign" : Str) = ("sign" : Str) then (decide (0 ≤ i) && decide (i ≤ 99)) else _) = true
      rw [if_pos rfl, decide_eq_true h.1, decide_eq_true h.2]
      rfl
  | .no f, n, h, hd => by
    cases n with
    | zero => exact absurd hd (by show ¬ f.dep + 1 ≤ 0; omega)
    | succ n =>
      have q := isF_toD f n h (by have hd : f.dep + 1 ≤ n + 1 := hd; omega)
      have e1 : ¬ ("not" : Str) = ("sign" : Str) := by decide +kernel
      have e2 : arOf ("not" : Str) = some 1 := by decide +kernel
      rw [Fm.toD_no, isF, if_neg e1, e2]
      simp [q]
  | .bi w f g, n, h, hd => by
    cases n with
    | zero => exact absurd hd (by show ¬ max f.dep g.dep + 1 ≤ 0; omega)
    | succ n =>
      have hd : max f.dep g.dep + 1 ≤ n + 1 := hd
      have q1 := isF_toD f n h.1 (by omega)
      have q2 := isF_toD g n h.2 (by omega)
      have e2 : arOf w.txt = some 2 := by cases w <;> decide +kernel
      rw [Fm.toD_bi, isF, if_neg (txt_sign w), e2]
      simp [q1, q2]

/-! ### promises -/
section
variable (K : PySem.W.Frag)
def spIsNum : Sp := fun vs H Q _ => ∃ v d, vs = [v] ∧ Dp K H v d ∧ Q (.bl (isNum d)) H
def spIsSign : Sp := fun vs H Q _ => ∃ v d, vs = [v] ∧ Dp K H v d ∧ Q (.bl (isSg d)) H
def spIsF (n : Nat) : Sp := fun vs H Q _ => ∃ (v : V) (d : PyData) (k : Int), vs = [v, .int k] ∧ Dp K H v d ∧ 0 ≤ k ∧ k < (n : Int) ∧ ∀ H', Same H H' → Q (.bl (isF k.toNat d)) H'
def spIsFormula : Sp := fun vs H Q _ => ∃ v d, vs = [v] ∧ Dp K H v d ∧ ∀ H', Same H H' → Q (.bl (isF 12 d)) H'
/-- where nothing is refused -/
def spRefuse0 : Sp := fun vs H Q _ => ∃ v d, vs = [v] ∧ Dp K H v d ∧ isF 12 d = true ∧ ∀ H', Same H H' → Q .non H'
def spInner : Sp := fun vs H Q _ => ∃ (v : V) (f : Fm), vs = [v] ∧ Dp K H v f.toD ∧ ∀ (r : Addr) (H' : Hp) (ys : List V), Same H H' → SqT K H' r ys → DpAll K H' ys (f.kids.map Fm.toD) → Q (.ref r) H'
def spSpelled (n : Nat) : Sp := fun vs H Q _ => ∃ (v : V) (f : Fm), vs = [v] ∧ Dp K H v f.toD ∧ f.good ∧ f.dep ≤ 12 ∧ f.dep < n ∧ ∀ H', Same H H' → Q (.str (spS f)) H'
/-- the dict of the parts found -/
def Found (H : Hp) (kvs : List (Key × V)) (fs : List Fm) : Prop := Paired (fun (p : Key × V) (f : Fm) => p.1 = Sum.inr (spS f) ∧ Dp K H p.2 f.toD) kvs fs
def spFind (n : Nat) : Sp := fun vs H Q _ => ∃ (v : V) (f : Fm) (a : Addr) (kvs : List (Key × V)) (fs : List Fm), vs = [v, .ref a] ∧ Dp K H v f.toD ∧ f.good ∧ f.dep ≤ 12 ∧ f.dep < n ∧
  H a = some (.dK kvs) ∧ Found K H kvs fs ∧ (∀ g ∈ fs, g.good) ∧ fs.length + f.size ≤ 10000 ∧
  ∀ (H' : Hp) (kvs' : List (Key × V)), But a H H' → H' a = some (.dK kvs') → Found K H' kvs' (findP f fs) → Q .non H'
def spParts : Sp := fun vs H Q _ => ∃ (v : V) (f : Fm), vs = [v] ∧ Dp K H v f.toD ∧ f.good ∧ f.dep ≤ 12 ∧
  ∀ (r : Addr) (H' : Hp) (ys : List V), Same H H' → H' r = some (.lst ys) → DpAll K H' ys ((findP f []).map Fm.toD) → Q (.ref r) H'
def spIsTrue (n : Nat) : Sp := fun vs H Q _ => ∃ (v : V) (f : Fm) (a : Addr) (kvs : List (Key × V)) (S : Int → Bool), vs = [v, .ref a] ∧ Dp K H v f.toD ∧ f.dep < n ∧ H a = some (.dK kvs) ∧ (∀ i : Int, (valV kvs (Sum.inl i)).isSome = S i) ∧
  ∀ H', Same H H' → Q (.bl (f.tr S)) H'
def spTruth : Sp := fun vs H Q _ => ∃ (v : V) (f : Fm) (a : Addr) (ns : List Int), vs = [v, .ref a] ∧ Dp K H v f.toD ∧ f.good ∧ f.dep ≤ 12 ∧ SqL K H a (ns.map V.int) ∧ ns.length ≤ 1000 ∧
  ∀ H', Same H H' → Q (.bl (f.tr fun i => decide (i ∈ ns))) H'
end
section
variable {K : PySem.W.Frag} {H H' : Hp}
theorem found_keep (t : Tk K H H') : ∀ {kvs : List (Key × V)} {fs : List Fm}, Found K H kvs fs → Found K H' kvs fs
  | _, _, .nil => .nil
  | _, _, .cons h r => .cons ⟨h.1, fm_keep t _ _ h.2⟩ (found_keep t r)
theorem found_len {kvs : List (Key × V)} {fs : List Fm} (h : Found K H kvs fs) : kvs.length = fs.length := Paired.length h
theorem found_app : ∀ {kvs ks : List (Key × V)} {fs gs : List Fm}, Found K H kvs fs → Found K H ks gs → Found K H (kvs ++ ks) (fs ++ gs)
  | _, _, _, _, .nil, k => k
  | _, _, _, _, .cons h r, k => .cons h (found_app r k)
theorem found_at {f : Fm} (hf : f.good) : ∀ {kvs : List (Key × V)} {fs : List Fm}, Found K H kvs fs → (∀ g ∈ fs, g.good) → (valV kvs (Sum.inr (spS f))).isSome = decide (f ∈ fs)
  | _, _, .nil, _ => rfl
  | p :: ks, g :: gs, .cons h r, hg => by
    have ih := found_at hf r fun x hx => hg x (List.mem_cons_of_mem _ hx)
    by_cases e : g = f
    · subst e
      rw [valV_pos h.1, decide_eq_true (List.mem_cons_self)]
      rfl
    · have ne : ¬ p.1 = Sum.inr (spS f) := fun z => e (spS_inj (hg g List.mem_cons_self) hf (Sum.inr.inj (h.1.symm.trans z)))
      rw [valV_neg ne, ih]
      by_cases m : f ∈ gs
      · rw [decide_eq_true m, decide_eq_true (List.mem_cons_of_mem _ m)]
      · rw [decide_eq_false m, decide_eq_false]
        intro z
        rcases List.mem_cons.mp z with z | z
        · exact e z.symm
        · exact m z
theorem found_vals : ∀ {kvs : List (Key × V)} {fs : List Fm}, Found K H kvs fs → DpAll K H (kvs.map (·.2)) (fs.map Fm.toD)
  | _, _, .nil => .nil
  | _, _, .cons h r => .cons h.2 (found_vals r)
end
theorem dp_kids {K : PySem.W.Frag} {H : Hp} {v : V} {f : Fm} (h : Dp K H v f.toD) : ∃ a w xs, v = .ref a ∧ SqT K H a (w :: xs) ∧ (match f with | .sg i => w = .str ("sign" : Str) ∧ xs = [.int i] | .no g => w = .str ("not" : Str) ∧ DpAll K H xs [g.toD] | .bi b g k => w = .str b.txt ∧ DpAll K H xs [g.toD, k.toD]) := by
  cases f with
  | sg i =>
    obtain ⟨a, rfl, hs⟩ := dp_sg h
    exact ⟨a, _, _, rfl, hs, rfl, rfl⟩
  | no g =>
    obtain ⟨a, x, rfl, hs, hx⟩ := dp_no h
    exact ⟨a, _, _, rfl, hs, rfl, .cons hx .nil⟩
  | bi b g k =>
    obtain ⟨a, x, y, rfl, hs, hx, hy⟩ := dp_bi h
    exact ⟨a, _, _, rfl, hs, rfl, .cons hx (.cons hy .nil)⟩
/-- the module's dict of words -/
structure ManyD (K : PySem.W.Frag) (w : World) (d : Addr) (es : Array DictEntry) (n : Nat) : Prop where
  kd : KDict K w d es n
  nt : ∃ t, PySem.W.nsIn K d "not" = some (some (.int 1 t))
  an : ∃ t, PySem.W.nsIn K d "and" = some (some (.int 2 t))
  o_ : ∃ t, PySem.W.nsIn K d "or" = some (some (.int 2 t))
  th : ∃ t, PySem.W.nsIn K d "then" = some (some (.int 2 t))
  no : ∀ x : Str, arOf x = none → PySem.W.nsIn K d x = some none
theorem ManyD.get {K : PySem.W.Frag} {w : World} {d : Addr} {es : Array DictEntry} {n : Nat} (D : ManyD K w d es n) {x : Str} {k : Int} (h : arOf x = some k) : ∃ t, PySem.W.nsIn K d x = some (some (.int k t)) := by
  unfold arOf at h
  split at h
  · rename_i e; cases h; rw [e]; exact D.nt
  · split at h
    · rename_i e; cases h; rw [e]; exact D.an
    · split at h
      · rename_i e; cases h; rw [e]; exact D.o_
      · split at h
        · rename_i e; cases h; rw [e]; exact D.th
        · cases h
theorem ManyD.is {K : PySem.W.Frag} {w : World} {d : Addr} {es : Array DictEntry} {n : Nat} (D : ManyD K w d es n) (x : Str) : ∃ r, PySem.W.nsIn K d x = some r ∧ r.isSome = (arOf x).isSome := by
  cases e : arOf x with
  | none => exact ⟨none, D.no x e, rfl⟩
  | some k =>
    obtain ⟨t, q⟩ := D.get e
    exact ⟨_, q, rfl⟩
end Lm
set_option Elab.async false
set_option linter.all false
set_option maxRecDepth 100000
set_option maxHeartbeats 400000
namespace Lm
open PySem PySem.Spec PyProof.Rows L2
section
variable {X : Cx}
/-- list + list, wherever they come from -/
def rCatL (K : PySem.W.Frag) : R2 := fun x y H Q => ∃ (l b : Addr) (xs zs : List V), x = .ref l ∧ y = .ref b ∧ SqL K H l xs ∧ SqL K H b zs ∧ xs.length + zs.length ≤ sizeLine ∧ ∀ p, H p = none → Q (.ref p) (upd H p (.lst (xs ++ zs)))
theorem op_catL : OpR X (binaryOp .Add) (rCatL X.K) := by
  intro pins s σ H x y v u Q I rx ry h
  obtain ⟨l, b, xs, zs, rfl, rfl, hl, hb, hz, q⟩ := h
  cases rx
  cases ry
  obtain ⟨is, r1, ⟨⟨c1, d1, a1, s1⟩, n1, g1, e1, e2, e3⟩, _⟩ := I.list hl
  obtain ⟨js, r2, ⟨⟨c2, d2, a2, s2⟩, n2, g2, k1, k2, k3⟩, _⟩ := I.list hb
  dsimp only at e1 e2 e3 k1 k2 k3
  subst e1 e2 e3 k1 k2 k3
  have l1 := r1.length
  have l2 := r2.length
  refine concat_meets ⟨_, g1, rfl⟩ ⟨_, g2, rfl⟩ noFill_list_add seq_list_add PySem.F.slot_list_add PySem.F.entry_list_add (PySem.F.args_list_add_2 _ _) (list_addW l b is.toArray js.toArray n1 n2 _ _ s1 s2 (by rw [List.size_toArray, List.size_toArray]; omega)) ⟨g1, g2, ?_⟩
  rw [show is.toArray ++ js.toArray = (is ++ js).toArray from by simp]
  exact ⟨.ref _, _, I.lnew (t' := s.toks) (r1.append r2) (by rw [List.length_append]; omega), rfl, q _ I.fresh⟩
end
end Lm
set_option Elab.async false
set_option linter.all false
set_option maxRecDepth 100000
set_option maxHeartbeats 400000
/-! pure readings: data alone -/
namespace Lm
open PySem PySem.Spec PyProof.Rows L2
abbrev Rho := List (Option PyData)
/-- the slots hold these data -/
def EnvD (K : PySem.W.Frag) (H : Hp) (σ : L2.St) (ρ : Rho) : Prop := σ.length = ρ.length ∧ ∀ (i : Nat) (d : PyData), ρ[i]? = some (some d) → ∃ v, σ[i]? = some (some v) ∧ Dp K H v d
section
variable {K : PySem.W.Frag} {H H' : Hp} {σ : L2.St} {ρ : Rho} {v : V} {d : PyData}
theorem EnvD.same (h : EnvD K H σ ρ) (e : Same H H') : EnvD K H' σ ρ := ⟨h.1, fun i d q => (h.2 i d q).imp fun v p => ⟨p.1, dp_same e _ _ p.2⟩⟩
theorem EnvD.put (h : EnvD K H σ ρ) (hd : Dp K H v d) (i : Nat) : EnvD K H (σ.set i (some v)) (ρ.set i (some d)) := by
  refine ⟨by rw [List.length_set, List.length_set, h.1], fun j e q => ?_⟩
  by_cases c : i = j
  · subst c
    by_cases l : i < ρ.length
    · rw [List.getElem?_set_self l] at q
      cases q
      exact ⟨v, List.getElem?_set_self (by rw [h.1]; exact l), hd⟩
    · rw [List.getElem?_eq_none (by rw [List.length_set]; omega)] at q
      cases q
  · rw [List.getElem?_set_ne c] at q
    obtain ⟨u, a, b⟩ := h.2 j e q
    exact ⟨u, by rw [List.getElem?_set_ne c]; exact a, b⟩
theorem EnvD.drop (h : EnvD K H σ ρ) (i : Nat) : EnvD K H (σ.set i none) (ρ.set i none) := by
  refine ⟨by rw [List.length_set, List.length_set, h.1], fun j e q => ?_⟩
  by_cases c : i = j
  · subst c
    by_cases l : i < ρ.length
    · rw [List.getElem?_set_self l] at q
      cases q
    · rw [List.getElem?_eq_none (by rw [List.length_set]; omega)] at q
      cases q
  · rw [List.getElem?_set_ne c] at q
    obtain ⟨u, a, b⟩ := h.2 j e q
    exact ⟨u, by rw [List.getElem?_set_ne c]; exact a, b⟩
theorem EnvD.nil : EnvD K H [] [] := ⟨rfl, fun _ _ q => nomatch q⟩
theorem EnvD.cons (hd : Dp K H v d) (h : EnvD K H σ ρ) : EnvD K H (some v :: σ) (some d :: ρ) := ⟨by rw [List.length_cons, List.length_cons, h.1], fun i e q => by
  cases i with
  | zero => cases q; exact ⟨v, rfl, hd⟩
  | succ i => exact h.2 i e q⟩
theorem EnvD.non (h : EnvD K H σ ρ) (x : Option V) : EnvD K H (x :: σ) (none :: ρ) := ⟨by rw [List.length_cons, List.length_cons, h.1], fun i e q => by
  cases i with
  | zero => cases q
  | succ i => exact h.2 i e q⟩
end
/-- what is hidden: lists and dicts -/
def Hid (M : Addr → Bool) (H : Hp) : Prop := ∀ p, M p = true → (∃ xs, H p = some (.lst xs)) ∨ ∃ kvs, H p = some (.dK kvs)
/-- the heap without what is hidden -/
def vis (M : Addr → Bool) (H : Hp) : Hp := fun b => if M b = true then none else H b
section
variable {M : Addr → Bool} {H H' : Hp} {p : Addr} {o : HO}
theorem vis_sub : Same (vis M H) H := fun b u h => by
  unfold vis at h
  split at h
  · cases h
  · exact h
theorem vis_same (e : Same H H') : Same (vis M H) (vis M H') := fun b u h => by
  unfold vis at h ⊢
  split at h
  · cases h
  · rename_i c
    rw [if_neg c]
    exact e b u h
theorem Hid.same (h : Hid M H) (e : Same H H') : Hid M H' := fun p c => by
  rcases h p c with ⟨x, q⟩ | ⟨x, q⟩
  · exact .inl ⟨x, e _ _ q⟩
  · exact .inr ⟨x, e _ _ q⟩
theorem Hid.non (h : Hid M H) (n : H p = none) : M p = false := by
  cases c : M p with
  | false => rfl
  | true => rcases h p c with ⟨x, q⟩ | ⟨x, q⟩ <;> (rw [n] at q; cases q)
theorem vis_new (h : Hid M H) (n : H p = none) : vis M (upd H p o) p = some o := by
  unfold vis
  rw [h.non n, if_neg Bool.false_ne_true, upd_same]
theorem Hid.none : Hid (fun _ => false) H := fun p c => nomatch c
theorem vis_none : vis (fun _ => false) H = H := by
  funext b
  unfold vis
  rw [if_neg Bool.false_ne_true]
theorem Hid.tk {K : PySem.W.Frag} (h : Hid M H) : Tk K H (vis M H) := fun b xs q => by
  have c : ∀ o, H b = some o → (∀ ys, o ≠ .lst ys) → (∀ kvs, o ≠ .dK kvs) → vis M H b = some o := fun o e n1 n2 => by
    cases c : M b with
    | true =>
      rcases h b c with ⟨x, q⟩ | ⟨x, q⟩
      · rw [e] at q; exact absurd (Option.some.inj q) (n1 x)
      · rw [e] at q; exact absurd (Option.some.inj q) (n2 x)
    | false =>
      unfold vis
      rw [c, if_neg Bool.false_ne_true]
      exact e
  rcases q with (q | ⟨o, q⟩) | q
  · exact .inl (.inl (c _ q (fun _ z => nomatch z) (fun _ z => nomatch z)))
  · exact .inl (.inr ⟨o, c _ q (fun _ z => nomatch z) (fun _ z => nomatch z)⟩)
  · exact .inr q
end
/-- the expression gives the data d, and nothing that stood is changed -/
def PuE (K : PySem.W.Frag) (te : TE) (ρ : Rho) (d : PyData) : Prop := ∀ (M : Addr → Bool) σ H, Hid M H → EnvD K (vis M H) σ ρ → ∀ Q : VK, (∀ v H', Same H H' → Dp K (vis M H') v d → Q v H') → te σ H Q
def PuA (K : PySem.W.Frag) (ta : TA) (ρ : Rho) (ds : List PyData) : Prop := ∀ (M : Addr → Bool) σ H, Hid M H → EnvD K (vis M H) σ ρ → ∀ Q : List V → Hp → Prop, (∀ vs H', Same H H' → DpAll K (vis M H') vs ds → Q vs H') → ta σ H Q
def PuT (K : PySem.W.Frag) (tt : TT) (ρ : Rho) (b : Bool) : Prop := ∀ (M : Addr → Bool) σ H, Hid M H → EnvD K (vis M H) σ ρ → ∀ Q : Bool → Hp → Prop, (∀ H', Same H H' → Q b H') → tt σ H Q
section
variable {K : PySem.W.Frag} {ρ : Rho} {te ta tb tc : TE} {tA : TA} {tt tu : TT} {d e : PyData} {ds es : List PyData}
theorem PuE.cast (h : PuE K te ρ d) (q : d = e) : PuE K te ρ e := q ▸ h
theorem PuT.cast {b c : Bool} (h : PuT K tt ρ b) (q : b = c) : PuT K tt ρ c := q ▸ h
theorem pu_var {i : Nat} (h : ρ[i]? = some (some d)) : PuE K (tVar i) ρ d := fun M σ H hid en Q q => by
  obtain ⟨v, a, b⟩ := en.2 i d h
  exact ⟨v, a, q v H (Same.refl _) b⟩
theorem pu_int (i : Int) : PuE K (tC (.int i)) ρ (.int i) := fun M σ H hid en Q q => q _ H (Same.refl _) (.int i)
theorem pu_str (x : Str) : PuE K (tC (.str x)) ρ (.str x) := fun M σ H hid en Q q => q _ H (Same.refl _) (.str x)
theorem pu_bl (b : Bool) : PuE K (tC (.bl b)) ρ (.bool b) := fun M σ H hid en Q q => q _ H (Same.refl _) (.bl b)
theorem pu_non : PuE K (tC .non) ρ .none := fun M σ H hid en Q q => q _ H (Same.refl _) .non
theorem pu_nil : PuA K tNil ρ [] := fun M σ H hid en Q q => q [] H (Same.refl _) .nil
theorem pu_cons (h : PuE K te ρ d) (k : PuA K tA ρ ds) : PuA K (tCons te tA) ρ (d :: ds) := fun M σ H hid en Q q =>
  h M σ H hid en _ fun v H1 e1 hv => k M σ H1 (hid.same e1) (en.same (vis_same e1)) _ fun vs H2 e2 hvs => q (v :: vs) H2 (e1.trans e2) (.cons (dp_same (vis_same e2) _ _ hv) hvs)
theorem pu_tup (h : PuA K tA ρ ds) (hl : ds.length ≤ 100000 := by decide) : PuE K (tTup tA) ρ (.tuple ds) := fun M σ H hid en Q q =>
  h M σ H hid en _ fun vs H1 e1 hvs => ⟨sl1000 (by rw [dpAll_len hvs]; exact hl), fun p np => q (.ref p) _ (e1.trans (same_new np _)) (.tup (SqT.of (vis_new (hid.same e1) np)) (dpAll_same (vis_same (same_new np _)) _ _ hvs))⟩
theorem pu_lst (h : PuA K tA ρ ds) (hl : ds.length ≤ 100000 := by decide) : PuE K (tLst tA) ρ (.list ds) := fun M σ H hid en Q q =>
  h M σ H hid en _ fun vs H1 e1 hvs => ⟨sl1000 (by rw [dpAll_len hvs]; exact hl), fun p np => q (.ref p) _ (e1.trans (same_new np _)) (.lst (SqL.of (vis_new (hid.same e1) np)) (dpAll_same (vis_same (same_new np _)) _ _ hvs))⟩
/-! data opened -/
theorem dp_tupI {H : Hp} {v : V} (h : Dp K H v (.tuple ds)) : ∃ a vs, v = .ref a ∧ SqT K H a vs ∧ DpAll K H vs ds := by
  cases h with
  | tup hs ha => exact ⟨_, _, rfl, hs, ha⟩
theorem dp_lstI {H : Hp} {v : V} (h : Dp K H v (.list ds)) : ∃ a vs, v = .ref a ∧ SqL K H a vs ∧ DpAll K H vs ds := by
  cases h with
  | lst hs ha => exact ⟨_, _, rfl, hs, ha⟩
theorem dp_intI {H : Hp} {v : V} {i : Int} (h : Dp K H v (.int i)) : v = .int i := by cases h; rfl
theorem dp_blI {H : Hp} {v : V} {b : Bool} (h : Dp K H v (.bool b)) : v = .bl b := by cases h; rfl
theorem dp_strI {H : Hp} {v : V} {x : Str} (h : Dp K H v (.str x)) : v = .str x := by cases h; rfl
theorem dp_nonI {H : Hp} {v : V} (h : Dp K H v .none) : v = .non := by cases h; rfl
theorem dpAll_bls {H : Hp} : ∀ {bs : List Bool} {vs : List V}, DpAll K H vs (bs.map PyData.bool) → vs = bs.map V.bl
  | [], _, h => by cases h; rfl
  | b :: bs, _, h => by
    have h : DpAll K H _ (PyData.bool b :: bs.map PyData.bool) := h
    cases h with
    | cons h1 h2 => rw [dp_blI h1, dpAll_bls h2]; rfl
theorem dpAll_nums {H : Hp} : ∀ {ns : List Int} {vs : List V}, DpAll K H vs (ns.map PyData.int) → vs = ns.map V.int
  | [], _, h => by cases h; rfl
  | b :: bs, _, h => by
    have h : DpAll K H _ (PyData.int b :: bs.map PyData.int) := h
    cases h with
    | cons h1 h2 => rw [dp_intI h1, dpAll_nums h2]; rfl
theorem dpAll_at {H : Hp} {vs : List V} (h : DpAll K H vs ds) {j : Nat} (hd : ds[j]? = some d) : ∃ v, vs[j]? = some v ∧ Dp K H v d := by
  have hl := dpAll_len h
  have hj : j < vs.length := by rw [hl]; exact (List.getElem?_eq_some_iff.mp hd).1
  obtain ⟨e, he, hv⟩ := dpAll_get h (List.getElem?_eq_getElem hj)
  rw [hd] at he
  cases he
  exact ⟨_, List.getElem?_eq_getElem hj, hv⟩
theorem atI_dp {H : Hp} {vs : List V} (h : DpAll K H vs ds) {i : Int} (hd : atI ds i = some d) : ∃ v, atI vs i = some v ∧ Dp K H v d := by
  unfold atI at hd ⊢
  rw [dpAll_len h]
  cases e : ixN ds.length i with
  | none => rw [e] at hd; cases hd
  | some j => rw [e] at hd; exact dpAll_at h hd
theorem pu_ixT {i : Int} (h1 : PuE K ta ρ (.tuple ds)) (h2 : PuE K tb ρ (.int i)) (h : atI ds i = some d) : PuE K (tOp (rIxT K) ta tb) ρ d := fun M σ H hid en Q q =>
  h1 M σ H hid en _ fun v H1 e1 hv => h2 M σ H1 (hid.same e1) (en.same (vis_same e1)) _ fun u H2 e2 hu => by
    obtain ⟨a, vs, rfl, hs, ha⟩ := dp_tupI (dp_same (vis_same e2) _ _ hv)
    obtain rfl := dp_intI hu
    obtain ⟨x, hx, hdx⟩ := atI_dp ha h
    exact ⟨a, vs, i, x, rfl, rfl, sqT_same vis_sub hs, hx, q x H2 (e1.trans e2) hdx⟩
theorem pu_ixL {i : Int} (h1 : PuE K ta ρ (.list ds)) (h2 : PuE K tb ρ (.int i)) (h : atI ds i = some d) : PuE K (tOp (rIxL K) ta tb) ρ d := fun M σ H hid en Q q =>
  h1 M σ H hid en _ fun v H1 e1 hv => h2 M σ H1 (hid.same e1) (en.same (vis_same e1)) _ fun u H2 e2 hu => by
    obtain ⟨a, vs, rfl, hs, ha⟩ := dp_lstI (dp_same (vis_same e2) _ _ hv)
    obtain rfl := dp_intI hu
    obtain ⟨x, hx, hdx⟩ := atI_dp ha h
    exact ⟨a, vs, i, x, rfl, rfl, vis_sub.seq hs, hx, q x H2 (e1.trans e2) hdx⟩
/-! numbers -/
theorem pu_rI0 {g : Int → Int → V} {i j : Int} (h1 : PuE K ta ρ (.int i)) (h2 : PuE K tb ρ (.int j)) (hg : ∀ H, Dp K H (g i j) d) : PuE K (tOp (rI0 g) ta tb) ρ d := fun M σ H hid en Q q =>
  h1 M σ H hid en _ fun v H1 e1 hv => h2 M σ H1 (hid.same e1) (en.same (vis_same e1)) _ fun u H2 e2 hu => ⟨i, j, dp_intI hv, dp_intI hu, q _ H2 (e1.trans e2) (hg _)⟩
theorem pu_rI {C : Int → Int → Prop} {g : Int → Int → V} {i j : Int} (h1 : PuE K ta ρ (.int i)) (h2 : PuE K tb ρ (.int j)) (hc : C i j) (hg : ∀ H, Dp K H (g i j) d) : PuE K (tOp (rI C g) ta tb) ρ d := fun M σ H hid en Q q =>
  h1 M σ H hid en _ fun v H1 e1 hv => h2 M σ H1 (hid.same e1) (en.same (vis_same e1)) _ fun u H2 e2 hu => ⟨i, j, dp_intI hv, dp_intI hu, hc, q _ H2 (e1.trans e2) (hg _)⟩
theorem pu_add {i j : Int} (h1 : PuE K ta ρ (.int i)) (h2 : PuE K tb ρ (.int j)) : PuE K (tOp (rI0 fun i j => .int (i + j)) ta tb) ρ (.int (i + j)) := pu_rI0 h1 h2 fun H => .int _
theorem pu_sub {i j : Int} (h1 : PuE K ta ρ (.int i)) (h2 : PuE K tb ρ (.int j)) : PuE K (tOp (rI0 fun i j => .int (i - j)) ta tb) ρ (.int (i - j)) := pu_rI0 h1 h2 fun H => .int _
theorem pu_mul {i j : Int} (h1 : PuE K ta ρ (.int i)) (h2 : PuE K tb ρ (.int j)) (hc : CMul i j) : PuE K (tOp (rI CMul fun i j => .int (i * j)) ta tb) ρ (.int (i * j)) := pu_rI h1 h2 hc fun H => .int _
theorem pu_mod {i j : Int} (h1 : PuE K ta ρ (.int i)) (h2 : PuE K tb ρ (.int j)) (hc : 0 < j) : PuE K (tOp (rI (fun _ j => 0 < j) fun i j => .int (i % j)) ta tb) ρ (.int (i % j)) := pu_rI h1 h2 hc fun H => .int _
theorem pu_fdiv {i j : Int} (h1 : PuE K ta ρ (.int i)) (h2 : PuE K tb ρ (.int j)) (hc : CDiv i j) : PuE K (tOp (rI CDiv fun i j => .int (i / j)) ta tb) ρ (.int (i / j)) := pu_rI h1 h2 hc fun H => .int _
theorem pu_lt {i j : Int} (h1 : PuE K ta ρ (.int i)) (h2 : PuE K tb ρ (.int j)) : PuE K (tOp (rI0 fun i j => .bl (decide (i < j))) ta tb) ρ (.bool (decide (i < j))) := pu_rI0 h1 h2 fun H => .bl _
theorem pu_le {i j : Int} (h1 : PuE K ta ρ (.int i)) (h2 : PuE K tb ρ (.int j)) : PuE K (tOp (rI0 fun i j => .bl (decide (i ≤ j))) ta tb) ρ (.bool (decide (i ≤ j))) := pu_rI0 h1 h2 fun H => .bl _
theorem pu_gt {i j : Int} (h1 : PuE K ta ρ (.int i)) (h2 : PuE K tb ρ (.int j)) : PuE K (tOp (rI0 fun i j => .bl (decide (j < i))) ta tb) ρ (.bool (decide (j < i))) := pu_rI0 h1 h2 fun H => .bl _
theorem pu_ge {i j : Int} (h1 : PuE K ta ρ (.int i)) (h2 : PuE K tb ρ (.int j)) : PuE K (tOp (rI0 fun i j => .bl (decide (j ≤ i))) ta tb) ρ (.bool (decide (j ≤ i))) := pu_rI0 h1 h2 fun H => .bl _
theorem pu_eqI {i j : Int} (h1 : PuE K ta ρ (.int i)) (h2 : PuE K tb ρ (.int j)) : PuE K (tOp rEq ta tb) ρ (.bool (decide (i = j))) := fun M σ H hid en Q q =>
  h1 M σ H hid en _ fun v H1 e1 hv => h2 M σ H1 (hid.same e1) (en.same (vis_same e1)) _ fun u H2 e2 hu => by
    obtain rfl := dp_intI hv
    obtain rfl := dp_intI hu
    refine ⟨rfl, ?_⟩
    have e : (decide (V.int i = V.int j)) = decide (i = j) := decide_eq_decide.mpr ⟨fun z => V.int.inj z, fun z => z ▸ rfl⟩
    rw [e]
    exact q _ H2 (e1.trans e2) (.bl _)
theorem pu_neI {i j : Int} (h1 : PuE K ta ρ (.int i)) (h2 : PuE K tb ρ (.int j)) : PuE K (tOp rNe ta tb) ρ (.bool (!decide (i = j))) := fun M σ H hid en Q q =>
  h1 M σ H hid en _ fun v H1 e1 hv => h2 M σ H1 (hid.same e1) (en.same (vis_same e1)) _ fun u H2 e2 hu => by
    obtain rfl := dp_intI hv
    obtain rfl := dp_intI hu
    refine ⟨rfl, ?_⟩
    have e : (decide (V.int i = V.int j)) = decide (i = j) := decide_eq_decide.mpr ⟨fun z => V.int.inj z, fun z => z ▸ rfl⟩
    rw [e]
    exact q _ H2 (e1.trans e2) (.bl _)
theorem pu_eqS {i j : Str} (h1 : PuE K ta ρ (.str i)) (h2 : PuE K tb ρ (.str j)) : PuE K (tOp rEq ta tb) ρ (.bool (decide (i = j))) := fun M σ H hid en Q q =>
  h1 M σ H hid en _ fun v H1 e1 hv => h2 M σ H1 (hid.same e1) (en.same (vis_same e1)) _ fun u H2 e2 hu => by
    obtain rfl := dp_strI hv
    obtain rfl := dp_strI hu
    refine ⟨rfl, ?_⟩
    have e : (decide (V.str i = V.str j)) = decide (i = j) := decide_eq_decide.mpr ⟨fun z => V.str.inj z, fun z => z ▸ rfl⟩
    rw [e]
    exact q _ H2 (e1.trans e2) (.bl _)
theorem pu_neS {i j : Str} (h1 : PuE K ta ρ (.str i)) (h2 : PuE K tb ρ (.str j)) : PuE K (tOp rNe ta tb) ρ (.bool (!decide (i = j))) := fun M σ H hid en Q q =>
  h1 M σ H hid en _ fun v H1 e1 hv => h2 M σ H1 (hid.same e1) (en.same (vis_same e1)) _ fun u H2 e2 hu => by
    obtain rfl := dp_strI hv
    obtain rfl := dp_strI hu
    refine ⟨rfl, ?_⟩
    have e : (decide (V.str i = V.str j)) = decide (i = j) := decide_eq_decide.mpr ⟨fun z => V.str.inj z, fun z => z ▸ rfl⟩
    rw [e]
    exact q _ H2 (e1.trans e2) (.bl _)
/-! data compared -/
theorem pu_eqD (h1 : PuE K ta ρ d) (h2 : PuE K tb ρ e) (s1 : SeqAt.shaped d = true) (s2 : SeqAt.shaped e = true) : PuE K (tOp (rEqD K) ta tb) ρ (.bool (PyData.eqv d e)) := fun M σ H hid en Q q =>
  h1 M σ H hid en _ fun v H1 e1 hv => h2 M σ H1 (hid.same e1) (en.same (vis_same e1)) _ fun u H2 e2 hu => ⟨d, e, dp_same ((vis_same e2).trans vis_sub) _ _ hv, dp_same vis_sub _ _ hu, s1, s2, q _ H2 (e1.trans e2) (.bl _)⟩
theorem pu_neD (h1 : PuE K ta ρ d) (h2 : PuE K tb ρ e) (s1 : SeqAt.shaped d = true) (s2 : SeqAt.shaped e = true) : PuE K (tOp (rNeD K) ta tb) ρ (.bool (!PyData.eqv d e)) := fun M σ H hid en Q q =>
  h1 M σ H hid en _ fun v H1 e1 hv => h2 M σ H1 (hid.same e1) (en.same (vis_same e1)) _ fun u H2 e2 hu => ⟨d, e, dp_same ((vis_same e2).trans vis_sub) _ _ hv, dp_same vis_sub _ _ hu, s1, s2, q _ H2 (e1.trans e2) (.bl _)⟩
theorem pu_inD (h1 : PuE K ta ρ d) (h2 : PuE K tb ρ (.list ds)) (s1 : SeqAt.shaped d = true) (s2 : SeqAt.shaped (.list ds) = true) : PuE K (tOp (rInD K) ta tb) ρ (.bool (ds.any fun z => PyData.eqv z d)) := fun M σ H hid en Q q =>
  h1 M σ H hid en _ fun v H1 e1 hv => h2 M σ H1 (hid.same e1) (en.same (vis_same e1)) _ fun u H2 e2 hu => ⟨d, ds, dp_same ((vis_same e2).trans vis_sub) _ _ hv, dp_same vis_sub _ _ hu, s1, s2, q _ H2 (e1.trans e2) (.bl _)⟩
theorem pu_notInD (h1 : PuE K ta ρ d) (h2 : PuE K tb ρ (.list ds)) (s1 : SeqAt.shaped d = true) (s2 : SeqAt.shaped (.list ds) = true) : PuE K (tOp (rNotInD K) ta tb) ρ (.bool (!ds.any fun z => PyData.eqv z d)) := fun M σ H hid en Q q =>
  h1 M σ H hid en _ fun v H1 e1 hv => h2 M σ H1 (hid.same e1) (en.same (vis_same e1)) _ fun u H2 e2 hu => ⟨d, ds, dp_same ((vis_same e2).trans vis_sub) _ _ hv, dp_same vis_sub _ _ hu, s1, s2, q _ H2 (e1.trans e2) (.bl _)⟩
/-- is None -/
def isNo : PyData → Bool
  | .none => true
  | _ => false
theorem dp_isNo {H : Hp} {v : V} (h : Dp K H v d) : decide (v = .non) = isNo d := by
  cases h <;> first | rfl | exact decide_eq_false (fun z => nomatch z)
theorem pu_isN (h1 : PuE K ta ρ d) : PuE K (tIsN ta) ρ (.bool (isNo d)) := fun M σ H hid en Q q =>
  h1 M σ H hid en _ fun v H1 e1 hv => by
    rw [dp_isNo hv]
    exact q _ H1 e1 (.bl _)
theorem pu_notN (h1 : PuE K ta ρ d) : PuE K (tNotN ta) ρ (.bool (!isNo d)) := fun M σ H hid en Q q =>
  h1 M σ H hid en _ fun v H1 e1 hv => by
    rw [dp_isNo hv]
    exact q _ H1 e1 (.bl _)
/-! lists -/
theorem pu_cat (h1 : PuE K ta ρ (.list ds)) (h2 : PuE K tb ρ (.list es)) (hl : ds.length + es.length ≤ 100000) : PuE K (tOp (rCatL K) ta tb) ρ (.list (ds ++ es)) := fun M σ H hid en Q q =>
  h1 M σ H hid en _ fun v H1 e1 hv => h2 M σ H1 (hid.same e1) (en.same (vis_same e1)) _ fun u H2 e2 hu => by
    obtain ⟨a, vs, rfl, hs, ha⟩ := dp_lstI (dp_same (vis_same e2) _ _ hv)
    obtain ⟨b, us, rfl, ks, kb⟩ := dp_lstI hu
    refine ⟨a, b, vs, us, rfl, rfl, vis_sub.seq hs, vis_sub.seq ks, sl1000 (by rw [dpAll_len ha, dpAll_len kb]; exact hl), fun p np => ?_⟩
    exact q (.ref p) _ ((e1.trans e2).trans (same_new np _)) (.lst (SqL.of (vis_new (hid.same (e1.trans e2)) np)) (dpAll_same (vis_same (same_new np _)) _ _ (dpAll_app ha kb)))
theorem dpAll_take {H : Hp} : ∀ (n : Nat) {vs : List V} {ds : List PyData}, DpAll K H vs ds → DpAll K H (vs.take n) (ds.take n)
  | 0, _, _, _ => .nil
  | n + 1, _, _, .nil => .nil
  | n + 1, _, _, .cons h1 h2 => .cons h1 (dpAll_take n h2)
theorem dpAll_drop {H : Hp} : ∀ (n : Nat) {vs : List V} {ds : List PyData}, DpAll K H vs ds → DpAll K H (vs.drop n) (ds.drop n)
  | 0, _, _, h => h
  | n + 1, _, _, .nil => .nil
  | n + 1, _, _, .cons h1 h2 => dpAll_drop n h2
theorem cutTo' (xs : List V) (n : Nat) : cutV xs none (some (n : Int)) = xs.take n := by
  unfold cutV
  have e1 : HT.sIx xs.length 0 none = 0 := rfl
  rw [e1, HT.sIx_nat, List.drop_zero, Nat.sub_zero]
  by_cases h : n ≤ xs.length
  · rw [Nat.min_eq_left h]
  · rw [Nat.min_eq_right (by omega), List.take_length, List.take_of_length_le (by omega)]
theorem cutFrom' (xs : List V) (n : Nat) : cutV xs (some (n : Int)) none = xs.drop n := by
  unfold cutV
  have e2 : HT.sIx xs.length xs.length none = xs.length := rfl
  rw [e2, HT.sIx_nat]
  by_cases h : n ≤ xs.length
  · rw [Nat.min_eq_left h, List.take_of_length_le (by rw [List.length_drop]; omega)]
  · rw [Nat.min_eq_right (by omega), List.drop_length, List.drop_eq_nil_of_le (by omega), List.take_nil]
/-- ds[:n] -/
theorem pu_to {n : Nat} (h1 : PuE K ta ρ (.list ds)) (h2 : PuE K tb ρ (.int n)) : PuE K (tSl (rSlL K) ta tNoPart (tPart tb)) ρ (.list (ds.take n)) := fun M σ H hid en Q q =>
  h1 M σ H hid en _ fun v H1 e1 hv => h2 M σ H1 (hid.same e1) (en.same (vis_same e1)) _ fun u H2 e2 hu => by
    obtain ⟨a, vs, rfl, hs, ha⟩ := dp_lstI (dp_same (vis_same e2) _ _ hv)
    refine ⟨n, dp_intI hu, a, vs, rfl, vis_sub.seq hs, fun p np => ?_⟩
    rw [cutTo']
    exact q (.ref p) _ ((e1.trans e2).trans (same_new np _)) (.lst (SqL.of (vis_new (hid.same (e1.trans e2)) np)) (dpAll_same (vis_same (same_new np _)) _ _ (dpAll_take n ha)))
/-- ds[n:] -/
theorem pu_from {n : Nat} (h1 : PuE K ta ρ (.list ds)) (h2 : PuE K tb ρ (.int n)) : PuE K (tSl (rSlL K) ta (tPart tb) tNoPart) ρ (.list (ds.drop n)) := fun M σ H hid en Q q =>
  h1 M σ H hid en _ fun v H1 e1 hv => h2 M σ H1 (hid.same e1) (en.same (vis_same e1)) _ fun u H2 e2 hu => by
    obtain ⟨a, vs, rfl, hs, ha⟩ := dp_lstI (dp_same (vis_same e2) _ _ hv)
    refine ⟨n, dp_intI hu, a, vs, rfl, vis_sub.seq hs, fun p np => ?_⟩
    rw [cutFrom']
    exact q (.ref p) _ ((e1.trans e2).trans (same_new np _)) (.lst (SqL.of (vis_new (hid.same (e1.trans e2)) np)) (dpAll_same (vis_same (same_new np _)) _ _ (dpAll_drop n ha)))
/-! builtins -/
/-- len of a list, a tuple -/
abbrev rLn (K : PySem.W.Frag) : List V → Hp → VK → Prop := fun xs H Q => ∃ p ys, xs = [V.ref p] ∧ (SqL K H p ys ∨ SqT K H p ys) ∧ Q (.int ys.length) H
theorem pu_len_l (h1 : PuE K ta ρ (.list ds)) : PuE K (tCB (rLn K) (tCons ta tNil)) ρ (.int ds.length) := fun M σ H hid en Q q =>
  h1 M σ H hid en _ fun v H1 e1 hv => by
    obtain ⟨a, vs, rfl, hs, ha⟩ := dp_lstI hv
    refine ⟨a, vs, rfl, .inl (vis_sub.seq hs), ?_⟩
    rw [dpAll_len ha]
    exact q _ H1 e1 (.int _)
theorem pu_len_t (h1 : PuE K ta ρ (.tuple ds)) : PuE K (tCB (rLn K) (tCons ta tNil)) ρ (.int ds.length) := fun M σ H hid en Q q =>
  h1 M σ H hid en _ fun v H1 e1 hv => by
    obtain ⟨a, vs, rfl, hs, ha⟩ := dp_tupI hv
    refine ⟨a, vs, rfl, .inr (sqT_same vis_sub hs), ?_⟩
    rw [dpAll_len ha]
    exact q _ H1 e1 (.int _)
theorem pu_isInt (h1 : PuE K ta ρ d) : PuE K (tCB (rIsi K) (tCons ta (tCons (tC (.ty "int")) tNil))) ρ (.bool (isIB d)) := fun M σ H hid en Q q =>
  h1 M σ H hid en _ fun v H1 e1 hv => ⟨v, .ty "int", _, _, _, rfl, .ty "int", tyx_of (dp_same vis_sub _ _ hv), kit_int hv, q _ H1 e1 (.bl _)⟩
theorem pu_isBool (h1 : PuE K ta ρ d) : PuE K (tCB (rIsi K) (tCons ta (tCons (tC (.ty "bool")) tNil))) ρ (.bool (isBl d)) := fun M σ H hid en Q q =>
  h1 M σ H hid en _ fun v H1 e1 hv => ⟨v, .ty "bool", _, _, _, rfl, .ty "bool", tyx_of (dp_same vis_sub _ _ hv), kit_bool hv, q _ H1 e1 (.bl _)⟩
theorem pu_isStr (h1 : PuE K ta ρ d) : PuE K (tCB (rIsi K) (tCons ta (tCons (tC (.ty "str")) tNil))) ρ (.bool (isSt d)) := fun M σ H hid en Q q =>
  h1 M σ H hid en _ fun v H1 e1 hv => ⟨v, .ty "str", _, _, _, rfl, .ty "str", tyx_of (dp_same vis_sub _ _ hv), kit_str hv, q _ H1 e1 (.bl _)⟩
theorem pu_isTup (h1 : PuE K ta ρ d) : PuE K (tCB (rIsi K) (tCons ta (tCons (tC (.ty "tuple")) tNil))) ρ (.bool (isTu d)) := fun M σ H hid en Q q =>
  h1 M σ H hid en _ fun v H1 e1 hv => ⟨v, .ty "tuple", _, _, _, rfl, .ty "tuple", tyx_of (dp_same vis_sub _ _ hv), kit_tuple hv, q _ H1 e1 (.bl _)⟩
theorem pu_isLst (h1 : PuE K ta ρ d) : PuE K (tCB (rIsi K) (tCons ta (tCons (tC (.ty "list")) tNil))) ρ (.bool (isLi d)) := fun M σ H hid en Q q =>
  h1 M σ H hid en _ fun v H1 e1 hv => ⟨v, .ty "list", _, _, _, rfl, .ty "list", tyx_of (dp_same vis_sub _ _ hv), kit_list hv, q _ H1 e1 (.bl _)⟩
theorem pu_all {bs : List Bool} (h1 : PuE K ta ρ (.list (bs.map PyData.bool))) : PuE K (tCB (rAll K) (tCons ta tNil)) ρ (.bool (bs.all id)) := fun M σ H hid en Q q =>
  h1 M σ H hid en _ fun v H1 e1 hv => by
    obtain ⟨a, vs, rfl, hs, ha⟩ := dp_lstI hv
    rw [dpAll_bls ha] at hs
    exact ⟨a, bs, rfl, vis_sub.seq hs, q _ H1 e1 (.bl _)⟩
theorem pu_any {bs : List Bool} (h1 : PuE K ta ρ (.list (bs.map PyData.bool))) : PuE K (tCB (rAny K) (tCons ta tNil)) ρ (.bool (bs.any id)) := fun M σ H hid en Q q =>
  h1 M σ H hid en _ fun v H1 e1 hv => by
    obtain ⟨a, vs, rfl, hs, ha⟩ := dp_lstI hv
    rw [dpAll_bls ha] at hs
    exact ⟨a, bs, rfl, vis_sub.seq hs, q _ H1 e1 (.bl _)⟩
theorem pu_sum {ns : List Int} (h1 : PuE K ta ρ (.list (ns.map PyData.int))) : PuE K (tCB (rSum K) (tCons ta tNil)) ρ (.int ns.sum) := fun M σ H hid en Q q =>
  h1 M σ H hid en _ fun v H1 e1 hv => by
    obtain ⟨a, vs, rfl, hs, ha⟩ := dp_lstI hv
    rw [dpAll_nums ha] at hs
    exact ⟨a, ns, rfl, vis_sub.seq hs, q _ H1 e1 (.int _)⟩
/-- a pure def: its data in, its data out -/
def spPu (K : PySem.W.Frag) (m : Nat) (g : List PyData → PyData → Prop) : Sp := fun vs H Q _ => ∃ M ds d, Hid M H ∧ vs.length = m ∧ DpAll K (vis M H) vs ds ∧ g ds d ∧ ∀ v H', Same H H' → Dp K (vis M H') v d → Q v H'
theorem pu_call {m : Nat} {g : List PyData → PyData → Prop} (h : PuA K tA ρ ds) (hm : ds.length = m := by rfl) (hg : g ds d) : PuE K (tCall (spPu K m g) [] E0 tA) ρ d := fun M σ H hid en Q q =>
  h M σ H hid en _ fun vs H1 e1 hvs => ⟨M, ds, d, hid.same e1, by rw [List.append_nil, dpAll_len hvs, hm], by rw [List.append_nil]; exact hvs, hg, fun v H' e2 hv => q v H' (e1.trans e2) hv⟩
/-! tests -/
theorem pu_tB {b : Bool} (h : PuE K te ρ (.bool b)) : PuT K (tB te) ρ b := fun M σ H hid en Q q => h M σ H hid en _ fun v H1 e1 hv => ⟨b, dp_blI hv, q H1 e1⟩
theorem pu_tTest {b : Bool} (h : PuE K te ρ (.bool b)) : PuT K (tTest te) ρ b := fun M σ H hid en Q q => h M σ H hid en _ fun v H1 e1 hv => ⟨b, dp_blI hv, q H1 e1⟩
theorem pu_tNot {b : Bool} (h : PuT K tt ρ b) : PuT K (tNot tt) ρ (!b) := fun M σ H hid en Q q => h M σ H hid en _ q
theorem pu_tAnd {b c : Bool} (h : PuT K tt ρ b) (k : b = true → PuT K tu ρ c) : PuT K (tAnd tt tu) ρ (b && c) := fun M σ H hid en Q q => h M σ H hid en _ fun H1 e1 => by
  cases b with
  | true => exact iteT (k rfl M σ H1 (hid.same e1) (en.same (vis_same e1)) _ fun H2 e2 => q H2 (e1.trans e2))
  | false => exact iteF (q H1 e1)
theorem pu_tOr {b c : Bool} (h : PuT K tt ρ b) (k : b = false → PuT K tu ρ c) : PuT K (tOr tt tu) ρ (b || c) := fun M σ H hid en Q q => h M σ H hid en _ fun H1 e1 => by
  cases b with
  | true => exact iteT (q H1 e1)
  | false => exact iteF (k rfl M σ H1 (hid.same e1) (en.same (vis_same e1)) _ fun H2 e2 => q H2 (e1.trans e2))
theorem pu_yes : PuT K tYes ρ true := fun M σ H hid en Q q => q H (Same.refl _)
theorem pu_and {b c : Bool} (h : PuE K ta ρ (.bool b)) (k : b = true → PuE K tb ρ (.bool c)) : PuE K (tAndV ta tb) ρ (.bool (b && c)) := fun M σ H hid en Q q => h M σ H hid en _ fun v H1 e1 hv => ⟨b, dp_blI hv, by
  cases b with
  | true => exact iteT (k rfl M σ H1 (hid.same e1) (en.same (vis_same e1)) _ fun u H2 e2 hu => q u H2 (e1.trans e2) hu)
  | false => exact iteF (q _ H1 e1 (.bl _))⟩
theorem pu_or {b c : Bool} (h : PuE K ta ρ (.bool b)) (k : b = false → PuE K tb ρ (.bool c)) : PuE K (tOrV ta tb) ρ (.bool (b || c)) := fun M σ H hid en Q q => h M σ H hid en _ fun v H1 e1 hv => ⟨b, dp_blI hv, by
  cases b with
  | true => exact iteT (q _ H1 e1 (.bl _))
  | false => exact iteF (k rfl M σ H1 (hid.same e1) (en.same (vis_same e1)) _ fun u H2 e2 hu => q u H2 (e1.trans e2) hu)⟩
theorem pu_not {b : Bool} (h : PuE K ta ρ (.bool b)) : PuE K (tNotV ta) ρ (.bool (!b)) := fun M σ H hid en Q q => h M σ H hid en _ fun v H1 e1 hv => ⟨b, dp_blI hv, q _ H1 e1 (.bl _)⟩
theorem pu_if {b : Bool} (h : PuT K tt ρ b) (k : b = true → PuE K ta ρ d) (k' : b = false → PuE K tb ρ d) : PuE K (tIf tt ta tb) ρ d := fun M σ H hid en Q q => h M σ H hid en _ fun H1 e1 => by
  cases b with
  | true => exact iteT (k rfl M σ H1 (hid.same e1) (en.same (vis_same e1)) _ fun v H2 e2 hv => q v H2 (e1.trans e2) hv)
  | false => exact iteF (k' rfl M σ H1 (hid.same e1) (en.same (vis_same e1)) _ fun v H2 e2 hv => q v H2 (e1.trans e2) hv)
end
end Lm
set_option Elab.async false
set_option linter.all false
set_option maxRecDepth 100000
set_option maxHeartbeats 400000
/-! pure readings: walks, comprehensions, statements -/
namespace Lm
open PySem PySem.Spec PyProof.Rows L2
/-- an iterator that yields these data wherever G stands -/
structure ItD (K : PySem.W.Frag) (J : It) (G : Hp) (ds : List PyData) : Prop where
  go : ∀ i H, Same G H → i < ds.length → J.go i H
  st : ∀ i H, Same G H → ds.length ≤ i → J.stop i H
  yl : ∀ i H x H' d, Same G H → ds[i]? = some d → J.yld i H x H' → Same H H' ∧ ∀ N : Addr → Bool, Hid N H → Same G (vis N H) → Dp K (vis N H') x d
def PuI (K : PySem.W.Frag) (wi : TI) (ρ : Rho) (ds : List PyData) : Prop := ∀ (M : Addr → Bool) σ H, Hid M H → EnvD K (vis M H) σ ρ → ∀ R : It → Hp → Prop, (∀ J H', Same H H' → ItD K J (vis M H') ds → R J H') → wi σ H R
/-- a target takes the data d -/
def PuG (K : PySem.W.Frag) (g : TG) (vs : List Nat) (ρ : Rho) (d : PyData) (ρ' : Rho) : Prop := ∀ (M : Addr → Bool) σ H v, EnvD K (vis M H) σ ρ → Dp K (vis M H) v d → ∀ R : L2.St → Hp → Prop, (∀ σ', EnvD K (vis M H) σ' ρ' → wipe σ' vs = wipe σ vs → R σ' H) → g v σ H R
def wipeR (ρ : Rho) : List Nat → Rho
  | [] => ρ
  | v :: vs => (wipeR ρ vs).set v none
theorem EnvD.wipe {K : PySem.W.Frag} {H : Hp} {σ : L2.St} {ρ : Rho} (h : EnvD K H σ ρ) : ∀ vs : List Nat, EnvD K H (L2.wipe σ vs) (wipeR ρ vs)
  | [] => h
  | v :: vs => (EnvD.wipe h vs).drop v
section
variable {K : PySem.W.Frag} {ρ ρ' ρ'' : Rho} {te ta tb tc : TE} {tA : TA} {tt tu : TT} {d e : PyData} {ds es : List PyData} {wi : TI} {g : TG} {vs : List Nat}
/-! ### what is walked -/
theorem PuI.cast (h : PuI K wi ρ ds) (e : ds = es) : PuI K wi ρ es := e ▸ h
theorem pui_list (h : PuE K te ρ (.list ds)) : PuI K (iList K te) ρ ds := fun M σ H hid en R r => h M σ H hid en _ fun v H1 e1 hv => by
  obtain ⟨a, xs, rfl, hs, ha⟩ := dp_lstI hv
  have hl := dpAll_len ha
  refine ⟨a, rfl, ⟨xs, vis_sub.seq hs⟩, r _ H1 e1 ⟨fun i H' s hi => ?_, fun i H' s hi => ⟨xs, s.seq hs, by omega⟩, fun i H' x H'' d s hd y => ?_⟩⟩
  · have : i < xs.length := by omega
    exact ⟨xs, xs[i], s.seq hs, List.getElem?_eq_getElem this⟩
  · obtain ⟨rfl, y⟩ := y
    have hx := y xs (s.seq hs)
    obtain ⟨d', hd', hv⟩ := dpAll_get ha hx
    rw [hd] at hd'
    cases hd'
    exact ⟨Same.refl _, fun N hN s2 => dp_same s2 _ _ hv⟩
theorem pui_tup (h : PuE K te ρ (.tuple ds)) : PuI K (iTup K te) ρ ds := fun M σ H hid en R r => h M σ H hid en _ fun v H1 e1 hv => by
  obtain ⟨a, xs, rfl, hs, ha⟩ := dp_tupI hv
  have hl := dpAll_len ha
  refine ⟨a, rfl, ⟨xs, sqT_same vis_sub hs⟩, r _ H1 e1 ⟨fun i H' s hi => ?_, fun i H' s hi => ⟨xs, sqT_same s hs, by omega⟩, fun i H' x H'' d s hd y => ?_⟩⟩
  · have : i < xs.length := by omega
    exact ⟨xs, xs[i], sqT_same s hs, List.getElem?_eq_getElem this⟩
  · obtain ⟨rfl, y⟩ := y
    have hx := y xs (sqT_same s hs)
    obtain ⟨d', hd', hv⟩ := dpAll_get ha hx
    rw [hd] at hd'
    cases hd'
    exact ⟨Same.refl _, fun N hN s2 => dp_same s2 _ _ hv⟩
theorem itd_rng (G : Hp) (lo : Int) (n : Nat) : ItD K (Itr lo n) G ((List.range n).map fun (i : Nat) => PyData.int (lo + (i : Int))) := by
  refine ⟨fun i H' s hi => ?_, fun i H' s hi => ?_, fun i H' x H'' d s hd y => ?_⟩
  · rw [List.length_map, List.length_range] at hi
    exact hi
  · rw [List.length_map, List.length_range] at hi
    exact hi
  · obtain ⟨rfl, rfl⟩ := y
    refine ⟨Same.refl _, fun N hN s2 => ?_⟩
    rw [List.getElem?_map] at hd
    cases q : (List.range n)[i]? with
    | none => rw [q] at hd; cases hd
    | some j =>
      rw [q] at hd
      have e := List.getElem?_eq_some_iff.mp q
      obtain ⟨e1, e2⟩ := e
      rw [List.getElem_range] at e2
      subst e2
      cases hd
      exact .int _
theorem pui_rng1 {n : Int} (h : PuE K te ρ (.int n)) (h0 : -(2 ^ 62) ≤ n) (h1 : n < 2 ^ 62) : PuI K (iRng1 (tCons te tNil)) ρ ((List.range n.toNat).map fun (i : Nat) => PyData.int (0 + (i : Int))) := fun M σ H hid en R r => h M σ H hid en _ fun v H1 e1 hv =>
  ⟨n, by rw [dp_intI hv], h0, h1, r _ H1 e1 (itd_rng _ 0 _)⟩
theorem pui_rng2 {m n : Int} (h : PuE K ta ρ (.int m)) (k : PuE K tb ρ (.int n)) (b : -(2 ^ 62) ≤ m ∧ m < 2 ^ 62 ∧ -(2 ^ 62) ≤ n ∧ n < 2 ^ 62) : PuI K (iRng2 (tCons ta (tCons tb tNil))) ρ ((List.range (n - m).toNat).map fun (i : Nat) => PyData.int (m + (i : Int))) := fun M σ H hid en R r => h M σ H hid en _ fun v H1 e1 hv => k M σ H1 (hid.same e1) (en.same (vis_same e1)) _ fun u H2 e2 hu =>
  ⟨m, n, by rw [dp_intI hv, dp_intI hu], b, r _ H2 (e1.trans e2) (itd_rng _ m _)⟩
theorem pui_zip (h : PuE K ta ρ (.list ds)) (k : PuE K tb ρ (.list es)) : PuI K (iZip K (tCons ta (tCons tb tNil))) ρ ((ds.zip es).map fun p => PyData.tuple [p.1, p.2]) := fun M σ H hid en R r => h M σ H hid en _ fun v H1 e1 hv => k M σ H1 (hid.same e1) (en.same (vis_same e1)) _ fun u H2 e2 hu => by
  obtain ⟨a, xs, rfl, hs, ha⟩ := dp_lstI (dp_same (vis_same e2) _ _ hv)
  obtain ⟨b, ys, rfl, ks, kb⟩ := dp_lstI hu
  have hl := dpAll_len ha
  have kl := dpAll_len kb
  refine ⟨a, b, xs, ys, rfl, vis_sub.seq hs, vis_sub.seq ks, r _ H2 (e1.trans e2) ⟨fun i H' s hi => ?_, fun i H' s hi => ⟨xs, ys, s.seq hs, s.seq ks, ?_⟩, fun i H' x H'' d s hd y => ?_⟩⟩
  · rw [List.length_map, List.length_zip] at hi
    have i1 : i < xs.length := by omega
    have i2 : i < ys.length := by omega
    exact ⟨xs, ys, xs[i], ys[i], s.seq hs, s.seq ks, List.getElem?_eq_getElem i1, List.getElem?_eq_getElem i2⟩
  · rw [List.length_map, List.length_zip] at hi
    omega
  · obtain ⟨T, x1, y1, rfl, nT, rfl, q1, q2⟩ := y
    have p1 := q1 xs (s.seq hs)
    have p2 := q2 ys (s.seq ks)
    obtain ⟨d1, hd1, hv1⟩ := dpAll_get ha p1
    obtain ⟨d2, hd2, hv2⟩ := dpAll_get kb p2
    refine ⟨same_new nT _, fun N hN s2 => ?_⟩
    have ed : d = .tuple [d1, d2] := by
      rw [List.getElem?_map, List.getElem?_zip_eq_some.mpr (show ds[i]? = some (d1, d2).1 ∧ es[i]? = some (d1, d2).2 from ⟨hd1, hd2⟩)] at hd
      exact (Option.some.inj hd).symm
    subst ed
    have up := vis_same (M := N) (same_new nT (HO.tup [x1, y1]))
    exact .tup (SqT.of (vis_new hN nT)) (.cons (dp_same (s2.trans up) _ _ hv1) (.cons (dp_same (s2.trans up) _ _ hv2) .nil))
/-! ### targets -/
theorem wipe_set1 (σ : L2.St) (j : Nat) (x : Option V) : wipe (σ.set j x) [j] = wipe σ [j] := by
  show (σ.set j x).set j none = σ.set j none
  rw [List.set_set]
theorem pug_name (j : Nat) : PuG K (gName j) [j] ρ d (ρ.set j (some d)) := fun M σ H v en hd R r => r _ (en.put hd j) (wipe_set1 _ _ _)
theorem wipe_set2 (σ : L2.St) (j k : Nat) (x y : Option V) : wipe ((σ.set j x).set k y) [j, k] = wipe σ [j, k] := by
  show (((σ.set j x).set k y).set k none).set j none = (σ.set k none).set j none
  apply List.ext_getElem?
  intro i
  simp only [List.getElem?_set, List.length_set]
  by_cases a : j = i <;> by_cases b : k = i <;> simp [a, b]
theorem pug_two (j k : Nat) : PuG K (gTup K 2 (gCons (gName j) (gCons (gName k) gNil))) [j, k] ρ (.tuple [d, e]) ((ρ.set j (some d)).set k (some e)) := fun M σ H v en hd R r => by
  obtain ⟨a, xs, rfl, hs, ha⟩ := dp_tupI hd
  cases ha with
  | cons h1 ha =>
    cases ha with
    | cons h2 ha =>
      cases ha
      exact ⟨a, _, rfl, sqT_same vis_sub hs, rfl, _, _, rfl, _, _, rfl, rfl, r _ ((en.put h1 j).put h2 k) (wipe_set2 _ _ _ _ _)⟩
theorem wipe_set3 (σ : L2.St) (j k l : Nat) (x y z : Option V) : wipe (((σ.set j x).set k y).set l z) [j, k, l] = wipe σ [j, k, l] := by
  show (((((σ.set j x).set k y).set l z).set l none).set k none).set j none = ((σ.set l none).set k none).set j none
  apply List.ext_getElem?
  intro i
  simp only [List.getElem?_set, List.length_set]
  by_cases a : j = i <;> by_cases b : k = i <;> by_cases c : l = i <;> simp [a, b, c]
theorem pug_three {f : PyData} (j k l : Nat) : PuG K (gTup K 3 (gCons (gName j) (gCons (gName k) (gCons (gName l) gNil)))) [j, k, l] ρ (.tuple [d, e, f]) (((ρ.set j (some d)).set k (some e)).set l (some f)) := fun M σ H v en hd R r => by
  obtain ⟨a, xs, rfl, hs, ha⟩ := dp_tupI hd
  cases ha with
  | cons h1 ha =>
    cases ha with
    | cons h2 ha =>
      cases ha with
      | cons h3 ha =>
        cases ha
        exact ⟨a, _, rfl, sqT_same vis_sub hs, rfl, _, _, rfl, _, _, rfl, _, _, rfl, rfl, r _ (((en.put h1 j).put h2 k).put h3 l) (wipe_set3 _ _ _ _ _ _ _)⟩
/-! ### comprehensions -/
theorem vis_or_same {M : Addr → Bool} {D : Addr} {H : Hp} : Same (vis (fun b => M b || b == D) H) (vis M H) := fun b u h => by
  unfold vis at h ⊢
  split at h
  · cases h
  · rename_i c
    rw [Bool.or_eq_true, not_or] at c
    rw [if_neg c.1]
    exact h
theorem vis_upd {M : Addr → Bool} {D : Addr} {H : Hp} {o : HO} (h : M D = true) : vis M (upd H D o) = vis M H := by
  funext b
  unfold vis
  by_cases e : b = D
  · rw [e, h, if_pos rfl, if_pos rfl]
  · rw [upd_ne e]
theorem hid_or {M : Addr → Bool} {D : Addr} {H : Hp} {xs : List V} (h : Hid M H) (hD : H D = some (.lst xs)) : Hid (fun b => M b || b == D) H := fun p c => by
  rcases (Bool.or_eq_true _ _).mp c with c | c
  · exact h p c
  · exact .inl ⟨xs, by rw [eq_of_beq c]; exact hD⟩
theorem same_vis_or {M : Addr → Bool} {D : Addr} {H H' : Hp} (n : H D = none) (e : Same H H') : Same (vis M H) (vis (fun b => M b || b == D) H') := fun b u h => by
  have hb := vis_sub b u h
  have ne : (b == D) = false := beq_eq_false_iff_ne.mpr fun z => by rw [z, n] at hb; cases hb
  unfold vis at h ⊢
  split at h
  · cases h
  · rename_i c
    have c2 : ¬ (M b || b == D) = true := by rw [ne, Bool.or_false]; exact c
    show (if (M b || b == D) = true then none else H' b) = some u
    rw [if_neg c2]
    exact e b u h
theorem outs_take {α : Type} {xs : List α} {p : α → Bool} {f : α → PyData} {i : Nat} {x : α} (h : xs[i]? = some x) : ((xs.take (i + 1)).filter p).map f = ((xs.take i).filter p).map f ++ (if p x = true then [f x] else []) := by
  rw [List.take_succ, h, Option.toList_some, List.filter_append, List.map_append]
  cases c : p x with
  | true => rw [if_pos rfl, List.filter_cons_of_pos c]; rfl
  | false => rw [if_neg Bool.false_ne_true, List.filter_cons_of_neg (by rw [c]; exact Bool.false_ne_true)]; rfl
theorem pu_lc {α : Type} {xs : List α} {td : α → PyData} (hi : PuI K wi ρ (xs.map td)) (hl : xs.length ≤ 90000) (p : α → Bool) (f : α → PyData) (hb : ∀ x ∈ xs, ∃ ρ', PuG K g vs (wipeR ρ vs) (td x) ρ' ∧ PuT K tt ρ' (p x) ∧ (p x = true → PuE K te ρ' (f x))) (hw : ∀ σ : L2.St, wipe (wipe σ vs) vs = wipe σ vs) :
    PuE K (tLc wi g tt te vs) ρ (.list ((xs.filter p).map f)) := fun M σ H hid en Q q => hi M σ H hid en _ fun J H1 e1 it D nD => by
  have hid1 := hid.same e1
  have nM : M D = false := hid1.non nD
  generalize hM' : (fun b => M b || b == D) = M'
  have mD : M' D = true := by rw [← hM']; simp
  have fin : ∀ H acc, Same H1 H → H D = some (.lst acc) → DpAll K (vis M' H) acc ((xs.filter p).map f) → Q (.ref D) H := fun Hn acc s hD ha => by
    refine q (.ref D) Hn (e1.trans s) (.lst (SqL.of ?_) (dpAll_same (H := vis M' Hn) ?_ _ _ ha))
    · unfold vis
      rw [nM, if_neg Bool.false_ne_true]
      exact hD
    · rw [← hM']
      exact vis_or_same
  refine ⟨fun i m Hn => m = xs.length - i ∧ i ≤ xs.length ∧ Same H1 Hn ∧ ∃ acc, Hn D = some (.lst acc) ∧ acc.length ≤ i ∧ DpAll K (vis M' Hn) acc (((xs.take i).filter p).map f), ⟨_, rfl, Nat.zero_le _, same_new nD _, [], upd_same, Nat.le_refl _, ?_⟩, ?_⟩
  · rw [List.take_zero]
    exact .nil
  · rintro i m Hn ⟨rfl, ile, s, acc, hD, al, ha⟩
    have sv : Same (vis M H1) (vis M' Hn) := by
      rw [← hM']
      exact same_vis_or nD s
    have hidn : Hid M' Hn := by
      rw [← hM']
      exact hid_or (hid1.same s) hD
    by_cases c : i < xs.length
    · have hx : xs[i]? = some xs[i] := List.getElem?_eq_getElem c
      refine .inr ⟨it.go i Hn (sv.trans vis_sub) (by rw [List.length_map]; exact c), fun H' => Same H1 H' ∧ ∃ acc, H' D = some (.lst acc) ∧ acc.length ≤ i + 1 ∧ DpAll K (vis M' H') acc (((xs.take (i + 1)).filter p).map f), fun H' nx => ⟨_, by omega, rfl, c, nx⟩, fun x Hy y => ?_⟩
      obtain ⟨sy, dy⟩ := it.yl i Hn x Hy (td xs[i]) (sv.trans vis_sub) (by rw [List.getElem?_map, hx]; rfl) y
      have hdx := dy M' hidn sv
      obtain ⟨ρ', hg, ht, he⟩ := hb xs[i] (List.getElem_mem c)
      have en1 : EnvD K (vis M' Hy) (wipe σ vs) (wipeR ρ vs) := EnvD.wipe (en.same (((vis_same e1).trans sv).trans (vis_same sy))) vs
      refine hg M' (wipe σ vs) Hy x en1 hdx _ fun σ' en2 wq => ⟨wq.trans (hw σ), ?_⟩
      have hidy := hidn.same sy
      refine ht M' σ' Hy hidy en2 _ fun H3 e3 => ?_
      have s3 := sy.trans e3
      rw [outs_take (f := f) hx]
      cases b : p xs[i] with
      | false =>
        rw [if_neg Bool.false_ne_true, if_neg Bool.false_ne_true, List.append_nil]
        exact ⟨s.trans s3, acc, s3 _ _ hD, by omega, dpAll_same (vis_same s3) _ _ ha⟩
      | true =>
        rw [if_pos rfl, if_pos rfl]
        refine he b M' σ' H3 (hidy.same e3) (en2.same (vis_same e3)) _ fun u H4 e4 hu => ?_
        have s4 := s3.trans e4
        refine ⟨acc, s4 _ _ hD, sl1001 (by omega), same_upd (s.trans s4) nD, acc ++ [u], upd_same, by rw [List.length_append, List.length_singleton]; omega, ?_⟩
        rw [vis_upd mD]
        exact dpAll_app (dpAll_same (vis_same s4) _ _ ha) (.cons hu .nil)
    · have e : i = xs.length := by omega
      subst e
      rw [List.take_length] at ha
      exact .inl ⟨it.st _ Hn (sv.trans vis_sub) (by rw [List.length_map]; exact Nat.le_refl _), fin Hn acc s hD ha⟩
theorem wipe_one (σ : L2.St) (j : Nat) : wipe (wipe σ [j]) [j] = wipe σ [j] := by
  show (σ.set j none).set j none = σ.set j none
  rw [List.set_set]
theorem wipe_two (σ : L2.St) (j k : Nat) : wipe (wipe σ [j, k]) [j, k] = wipe σ [j, k] := by
  show (((σ.set k none).set j none).set k none).set j none = (σ.set k none).set j none
  apply List.ext_getElem?
  intro i
  simp only [List.getElem?_set, List.length_set]
  by_cases a : j = i <;> by_cases b : k = i <;> simp [a, b]
/-- one name, no test -/
theorem pu_map {α : Type} {xs : List α} {td : α → PyData} {j : Nat} (hi : PuI K wi ρ (xs.map td)) (hl : xs.length ≤ 90000) (f : α → PyData) (hb : ∀ x ∈ xs, PuE K te (ρ.set j (some (td x))) (f x)) :
    PuE K (tLc wi (gName j) tYes te [j]) ρ (.list (xs.map f)) := by
  have h := pu_lc (g := gName j) (vs := [j]) (tt := tYes) (te := te) hi hl (fun _ => true) f (fun x hx => ⟨_, pug_name j, pu_yes, fun _ => ?_⟩) (fun σ => wipe_one σ j)
  · rw [List.filter_eq_self.mpr fun _ _ => rfl] at h
    exact h
  · show PuE K te ((ρ.set j none).set j (some (td x))) (f x)
    rw [List.set_set]
    exact hb x hx
/-- one name and a test -/
theorem pu_fil {α : Type} {xs : List α} {td : α → PyData} {j : Nat} (hi : PuI K wi ρ (xs.map td)) (hl : xs.length ≤ 90000) (p : α → Bool) (f : α → PyData) (hb : ∀ x ∈ xs, PuT K tt (ρ.set j (some (td x))) (p x) ∧ (p x = true → PuE K te (ρ.set j (some (td x))) (f x))) :
    PuE K (tLc wi (gName j) tt te [j]) ρ (.list ((xs.filter p).map f)) := by
  refine pu_lc (g := gName j) (vs := [j]) (tt := tt) (te := te) hi hl p f (fun x hx => ⟨_, pug_name j, ?_⟩) (fun σ => wipe_one σ j)
  show PuT K tt ((ρ.set j none).set j (some (td x))) (p x) ∧ (p x = true → PuE K te ((ρ.set j none).set j (some (td x))) (f x))
  rw [List.set_set]
  exact hb x hx
/-- two names, no test -/
theorem pu_map2 {α : Type} {xs : List α} {td tf : α → PyData} {j k : Nat} (hi : PuI K wi ρ (xs.map fun x => .tuple [td x, tf x])) (hl : xs.length ≤ 90000) (f : α → PyData) (hb : ∀ x ∈ xs, PuE K te ((ρ.set j (some (td x))).set k (some (tf x))) (f x)) :
    PuE K (tLc wi (gTup K 2 (gCons (gName j) (gCons (gName k) gNil))) tYes te [j, k]) ρ (.list (xs.map f)) := by
  have h := pu_lc (g := gTup K 2 (gCons (gName j) (gCons (gName k) gNil))) (vs := [j, k]) (tt := tYes) (te := te) hi hl (fun _ => true) f (fun x hx => ⟨_, pug_two j k, pu_yes, fun _ => ?_⟩) (fun σ => wipe_two σ j k)
  · rw [List.filter_eq_self.mpr fun _ _ => rfl] at h
    exact h
  · show PuE K te (((((ρ.set k none).set j none).set j (some (td x)))).set k (some (tf x))) (f x)
    have e : ((((ρ.set k none).set j none).set j (some (td x)))).set k (some (tf x)) = (ρ.set j (some (td x))).set k (some (tf x)) := by
      apply List.ext_getElem?
      intro i
      simp only [List.getElem?_set, List.length_set]
      by_cases a : j = i <;> by_cases b : k = i <;> simp [a, b]
    rw [e]
    exact hb x hx
end
/-! ### statements -/
inductive Out where
  | rt (d : PyData)
  | nx (ρ : Rho)
  | ct (ρ : Rho)
  | bk (ρ : Rho)
def Post (K : PySem.W.Frag) (M : Addr → Bool) (H : Hp) (D : Ends) : Out → Prop
  | .rt d => ∀ v H', Same H H' → Dp K (vis M H') v d → D.rt v H'
  | .nx ρ => ∀ σ H', Same H H' → EnvD K (vis M H') σ ρ → D.nx σ H'
  | .ct ρ => ∀ σ H', Same H H' → EnvD K (vis M H') σ ρ → D.ct σ H'
  | .bk ρ => ∀ σ H', Same H H' → EnvD K (vis M H') σ ρ → D.bk σ H'
def PuS (K : PySem.W.Frag) (t : TS) (ρ : Rho) (o : Out) : Prop := ∀ (M : Addr → Bool) σ H, Hid M H → EnvD K (vis M H) σ ρ → ∀ D, Post K M H D o → t D σ H
theorem Post.same {K : PySem.W.Frag} {M : Addr → Bool} {H H' : Hp} {D : Ends} {o : Out} (h : Post K M H D o) (e : Same H H') : Post K M H' D o := by
  cases o with
  | rt d => exact fun v H2 e2 hv => h v H2 (e.trans e2) hv
  | nx ρ => exact fun v H2 e2 hv => h v H2 (e.trans e2) hv
  | ct ρ => exact fun v H2 e2 hv => h v H2 (e.trans e2) hv
  | bk ρ => exact fun v H2 e2 hv => h v H2 (e.trans e2) hv
section
variable {K : PySem.W.Frag} {ρ ρ' ρ'' : Rho} {te ta tb tc : TE} {tA : TA} {tt : TT} {d e : PyData} {ds es : List PyData} {wi : TI} {g : TG} {vs : List Nat} {t u : TS} {o : Out}
theorem PuS.cast {o' : Out} (h : PuS K t ρ o) (e : o = o') : PuS K t ρ o' := e ▸ h
theorem pus_ret (h : PuE K te ρ d) : PuS K (tRet te) ρ (.rt d) := fun M σ H hid en D q => h M σ H hid en _ q
theorem pus_retN : PuS K tRetN ρ (.rt .none) := fun M σ H hid en D q => q _ H (Same.refl _) .non
theorem pus_next : PuS K tNext ρ (.nx ρ) := fun M σ H hid en D q => q σ H (Same.refl _) en
theorem pus_cont : PuS K tCont ρ (.ct ρ) := fun M σ H hid en D q => q σ H (Same.refl _) en
theorem pus_drop (h : PuE K te ρ d) : PuS K (tDrop te) ρ (.nx ρ) := fun M σ H hid en D q => h M σ H hid en _ fun v H1 e1 _ => q σ H1 e1 (en.same (vis_same e1))
theorem pus_seq (h : PuS K t ρ (.nx ρ')) (k : PuS K u ρ' o) : PuS K (tSeq t u) ρ o := fun M σ H hid en D q =>
  h M σ H hid en _ fun σ1 H1 e1 en1 => k M σ1 H1 (hid.same e1) en1 D (q.same e1)
/-- what ends early -/
theorem pus_early (h : PuS K t ρ o) (n : ∀ ρ', o ≠ .nx ρ') : PuS K (tSeq t u) ρ o := fun M σ H hid en D q => h M σ H hid en _ (by
  cases o with
  | rt d => exact q
  | nx ρ => exact absurd rfl (n ρ)
  | ct ρ => exact q
  | bk ρ => exact q)
theorem pus_if {b : Bool} (h : PuT K tt ρ b) (k : b = true → PuS K t ρ o) (k' : b = false → PuS K u ρ o) : PuS K (tIfS tt t u) ρ o := fun M σ H hid en D q => h M σ H hid en _ fun H1 e1 => by
  cases b with
  | true => exact iteT (k rfl M σ H1 (hid.same e1) (en.same (vis_same e1)) D (q.same e1))
  | false => exact iteF (k' rfl M σ H1 (hid.same e1) (en.same (vis_same e1)) D (q.same e1))
/-- an if that returns, and what stands behind it -/
theorem pus_ifr {b : Bool} (h : PuT K tt ρ b) (k : b = true → ∃ e, o = .rt e ∧ PuS K t ρ (.rt e)) (k' : b = false → PuS K u ρ o) : PuS K (tSeq (tIfS tt t tNext) u) ρ o := by
  cases b with
  | true =>
    obtain ⟨e, rfl, h2⟩ := k rfl
    exact pus_early (pus_if h (fun _ => h2) (fun z => nomatch z)) (fun _ z => nomatch z)
  | false => exact pus_seq (pus_if h (fun z => nomatch z) (fun _ => pus_next)) (k' rfl)
theorem pus_skip (h : PuT K tt ρ false) (k : PuS K u ρ o) : PuS K (tSeq (tIfS tt t tNext) u) ρ o := pus_ifr h (fun z => nomatch z) fun _ => k
theorem pus_take (h : PuT K tt ρ true) (k : PuS K t ρ (.rt d)) : PuS K (tSeq (tIfS tt t tNext) u) ρ (.rt d) := pus_ifr h (fun _ => ⟨d, rfl, k⟩) fun z => nomatch z
theorem pu_eqS1 {i j : Str} (h1 : PuE K ta ρ (.str i)) (h2 : PuE K tb ρ (.str j)) (e : i = j) : PuT K (tTest (tOp rEq ta tb)) ρ true := pu_tTest ((pu_eqS h1 h2).cast (by rw [decide_eq_true e]))
theorem pu_eqS0 {i j : Str} (h1 : PuE K ta ρ (.str i)) (h2 : PuE K tb ρ (.str j)) (e : ¬ i = j) : PuT K (tTest (tOp rEq ta tb)) ρ false := pu_tTest ((pu_eqS h1 h2).cast (by rw [decide_eq_false e]))
theorem pus_set1 {i : Nat} (h : PuE K te ρ d) : PuS K (tAsg te (gName i)) ρ (.nx (ρ.set i (some d))) := fun M σ H hid en D q => h M σ H hid en _ fun v H1 e1 hv => q _ H1 e1 ((en.same (vis_same e1)).put hv i)
theorem pus_asg1 (h : PuE K te ρ d) (hg : PuG K g vs ρ d ρ') : PuS K (tAsg te g) ρ (.nx ρ') := fun M σ H hid en D q => h M σ H hid en _ fun v H1 e1 hv => hg M σ H1 v (en.same (vis_same e1)) hv _ fun σ' en' _ => q _ H1 e1 en'
theorem pus_set {i : Nat} (h : PuE K te ρ d) (k : PuS K u (ρ.set i (some d)) o) : PuS K (tSeq (tAsg te (gName i)) u) ρ o := pus_seq (ρ' := ρ.set i (some d)) (fun M σ H hid en D q => h M σ H hid en _ fun v H1 e1 hv => q _ H1 e1 ((en.same (vis_same e1)).put hv i)) k
theorem pus_asg (h : PuE K te ρ d) (hg : PuG K g vs ρ d ρ') (k : PuS K u ρ' o) : PuS K (tSeq (tAsg te g) u) ρ o := pus_seq (ρ' := ρ') (fun M σ H hid en D q => h M σ H hid en _ fun v H1 e1 hv => hg M σ H1 v (en.same (vis_same e1)) hv _ fun σ' en' _ => q _ H1 e1 en') k
/-- a loop that changes no slot but by F, to its end -/
theorem pus_for {α : Type} {xs : List α} {td : α → PyData} {tb : TS} (F : Nat → Rho) (hi : PuI K wi ρ (xs.map td)) (h0 : ρ = F 0)
    (hb : ∀ i x, xs[i]? = some x → ∃ ρ1, PuG K g vs (F i) (td x) ρ1 ∧ (PuS K tb ρ1 (.nx (F (i + 1))) ∨ PuS K tb ρ1 (.ct (F (i + 1))))) : PuS K (tFor wi g tb) ρ (.nx (F xs.length)) := fun M σ H hid en D q => hi M σ H hid en _ fun J H1 e1 it => by
  subst h0
  refine ⟨fun i m σ' Hn => m = xs.length - i ∧ i ≤ xs.length ∧ Same H1 Hn ∧ EnvD K (vis M Hn) σ' (F i), ⟨_, rfl, Nat.zero_le _, Same.refl _, en.same (vis_same e1)⟩, ?_⟩
  rintro i m σ' Hn ⟨rfl, ile, s, en'⟩
  by_cases c : i < xs.length
  · have hx : xs[i]? = some xs[i] := List.getElem?_eq_getElem c
    refine .inr ⟨it.go i Hn (vis_sub.trans s) (by rw [List.length_map]; exact c), fun σ'' H' => Same H1 H' ∧ EnvD K (vis M H') σ'' (F (i + 1)), fun σ'' H' nx => ⟨_, by omega, rfl, c, nx⟩, fun x Hy y => ?_⟩
    obtain ⟨sy, dy⟩ := it.yl i Hn x Hy (td xs[i]) (vis_sub.trans s) (by rw [List.getElem?_map, hx]; rfl) y
    have hidn := (hid.same e1).same s
    have hdx := dy M hidn (vis_same s)
    obtain ⟨ρ1, hg, ht⟩ := hb i xs[i] hx
    refine hg M σ' Hy x (en'.same (vis_same sy)) hdx _ fun σ2 en2 _ => ?_
    rcases ht with ht | ht
    · exact ht M σ2 Hy (hidn.same sy) en2 _ fun σ3 H3 e3 en3 => ⟨s.trans (sy.trans e3), en3⟩
    · exact ht M σ2 Hy (hidn.same sy) en2 _ fun σ3 H3 e3 en3 => ⟨s.trans (sy.trans e3), en3⟩
  · have e : i = xs.length := by omega
    subst e
    exact .inl ⟨it.st _ Hn (vis_sub.trans s) (by rw [List.length_map]; exact Nat.le_refl _), q σ' Hn (e1.trans s) en'⟩
/-- a loop whose turn k returns -/
theorem pus_forR {α : Type} {xs : List α} {td : α → PyData} {tb : TS} {k : Nat} (F : Nat → Rho) (hi : PuI K wi ρ (xs.map td)) (h0 : ρ = F 0) (hk : k < xs.length)
    (hb : ∀ i x, i < k → xs[i]? = some x → ∃ ρ1, PuG K g vs (F i) (td x) ρ1 ∧ (PuS K tb ρ1 (.nx (F (i + 1))) ∨ PuS K tb ρ1 (.ct (F (i + 1)))))
    (hr : ∀ x, xs[k]? = some x → ∃ ρ1, PuG K g vs (F k) (td x) ρ1 ∧ PuS K tb ρ1 (.rt d)) : PuS K (tFor wi g tb) ρ (.rt d) := fun M σ H hid en D q => hi M σ H hid en _ fun J H1 e1 it => by
  subst h0
  refine ⟨fun i m σ' Hn => m = xs.length - i ∧ i ≤ k ∧ Same H1 Hn ∧ EnvD K (vis M Hn) σ' (F i), ⟨_, rfl, Nat.zero_le _, Same.refl _, en.same (vis_same e1)⟩, ?_⟩
  rintro i m σ' Hn ⟨rfl, ile, s, en'⟩
  have c : i < xs.length := by omega
  have hx : xs[i]? = some xs[i] := List.getElem?_eq_getElem c
  refine .inr ⟨it.go i Hn (vis_sub.trans s) (by rw [List.length_map]; exact c), fun σ'' H' => i + 1 ≤ k ∧ Same H1 H' ∧ EnvD K (vis M H') σ'' (F (i + 1)), fun σ'' H' nx => ⟨_, by omega, rfl, nx⟩, fun x Hy y => ?_⟩
  obtain ⟨sy, dy⟩ := it.yl i Hn x Hy (td xs[i]) (vis_sub.trans s) (by rw [List.getElem?_map, hx]; rfl) y
  have hidn := (hid.same e1).same s
  have hdx := dy M hidn (vis_same s)
  by_cases ik : i < k
  · obtain ⟨ρ1, hg, ht⟩ := hb i xs[i] ik hx
    refine hg M σ' Hy x (en'.same (vis_same sy)) hdx _ fun σ2 en2 _ => ?_
    rcases ht with ht | ht
    · exact ht M σ2 Hy (hidn.same sy) en2 _ fun σ3 H3 e3 en3 => ⟨ik, s.trans (sy.trans e3), en3⟩
    · exact ht M σ2 Hy (hidn.same sy) en2 _ fun σ3 H3 e3 en3 => ⟨ik, s.trans (sy.trans e3), en3⟩
  · have e : i = k := by omega
    subst e
    obtain ⟨ρ1, hg, ht⟩ := hr xs[i] hx
    refine hg M σ' Hy x (en'.same (vis_same sy)) hdx _ fun σ2 en2 _ => ?_
    exact ht M σ2 Hy (hidn.same sy) en2 _ fun v H3 e3 hv => q v H3 (e1.trans (s.trans (sy.trans e3))) hv
end
end Lm
set_option Elab.async false
set_option linter.all false
set_option maxRecDepth 100000
set_option maxHeartbeats 400000
/-! readings of defs that grow lists of their own -/
namespace Lm
open PySem PySem.Spec PyProof.Rows L2
/-- a slot: data, or a list of the def's own -/
inductive Ent where
  | d (x : PyData)
  | o (ds : List PyData)
  /-- a list that was handed in to be grown, at its place -/
  | m (a : Addr) (ds : List PyData)
abbrev RhoO := List (Option Ent)
def Ent.seen : Ent → PyData
  | .d x => x
  | .o ds => .list ds
  | .m _ ds => .list ds
def Ent.lst : Ent → Option (List PyData)
  | .d _ => none
  | .o ds => some ds
  | .m _ ds => some ds
def Ent.on : Ent → Addr → Prop
  | .m a _, p => p = a
  | _, _ => True
def Ent.wth : Ent → List PyData → Ent
  | .d x, _ => .d x
  | .o _, ds => .o ds
  | .m a _, ds => .m a ds
theorem Ent.wth_on {e : Ent} {p : Addr} {ds : List PyData} (h : e.on p) : (e.wth ds).on p := by cases e <;> exact h
theorem Ent.wth_lst {e : Ent} {ds es : List PyData} (h : e.lst = some ds) : (e.wth es).lst = some es := by
  cases e with
  | d x => cases h
  | o ds => rfl
  | m a ds => rfl
def Ent.hide : Ent → Option PyData
  | .d x => some x
  | .o _ => none
  | .m _ _ => none
/-- the slots, own lists seen as data -/
def seen (ρ : RhoO) : Rho := ρ.map (·.map Ent.seen)
/-- .. and hidden -/
def hidn (ρ : RhoO) : Rho := ρ.map (·.bind Ent.hide)
structure EnvM (K : PySem.W.Frag) (M M' : Addr → Bool) (H0 H : Hp) (σ : L2.St) (ρ : RhoO) : Prop where
  le : ∀ b, M b = true → M' b = true
  hid : Hid M' H
  same : Same H0 H
  len : σ.length = ρ.length
  new : ∀ b, M' b = true → M b = true ∨ H0 b = none
  dat : ∀ (i : Nat) (x : PyData), ρ[i]? = some (some (.d x)) → ∃ v, σ[i]? = some (some v) ∧ Dp K (vis M' H) v x
  own : ∀ (i : Nat) (e : Ent) (ds : List PyData), ρ[i]? = some (some e) → e.lst = some ds → ∃ p vs, σ[i]? = some (some (.ref p)) ∧ e.on p ∧ H p = some (.lst vs) ∧ M' p = true ∧ M p = false ∧ H0 p = none ∧ DpAll K (vis M' H) vs ds
  dif : ∀ (i j : Nat) (e e' : Ent) (ds es : List PyData) (p : Addr), i ≠ j → ρ[i]? = some (some e) → e.lst = some ds → ρ[j]? = some (some e') → e'.lst = some es → σ[i]? = some (some (.ref p)) → σ[j]? = some (some (.ref p)) → False
def EnvO (K : PySem.W.Frag) (M : Addr → Bool) (H0 H : Hp) (σ : L2.St) (ρ : RhoO) : Prop := ∃ M', EnvM K M M' H0 H σ ρ
section
variable {K : PySem.W.Frag} {M M' : Addr → Bool} {H0 H H' : Hp} {σ : L2.St} {ρ : RhoO} {v : V} {x : PyData}
theorem vis_le (h : ∀ b, M b = true → M' b = true) : Same (vis M' H) (vis M H) := fun b u q => by
  unfold vis at q ⊢
  split at q
  · cases q
  · rename_i c
    rw [if_neg fun z => c (h b z)]
    exact q
theorem EnvM.hidM (h : EnvM K M M' H0 H σ ρ) : Hid M H := fun p c => h.hid p (h.le p c)
theorem EnvM.next (h : EnvM K M M' H0 H σ ρ) (e : Same H H') : EnvM K M M' H0 H' σ ρ :=
  ⟨h.le, h.hid.same e, h.same.trans e, h.len, h.new, fun i x q => (h.dat i x q).imp fun v p => ⟨p.1, dp_same (vis_same e) _ _ p.2⟩,
   fun i y ds q l => by
    obtain ⟨p, vs, a, a', b, c, d, f, g⟩ := h.own i y ds q l
    exact ⟨p, vs, a, a', e _ _ b, c, d, f, dpAll_same (vis_same e) _ _ g⟩, h.dif⟩
theorem EnvM.hidn (h : EnvM K M M' H0 H σ ρ) : EnvD K (vis M' H) σ (hidn ρ) := by
  refine ⟨by rw [h.len]; unfold Lm.hidn; rw [List.length_map], fun i d q => ?_⟩
  unfold Lm.hidn at q
  rw [List.getElem?_map] at q
  cases e : ρ[i]? with
  | none => rw [e] at q; cases q
  | some y =>
    rw [e] at q
    cases y with
    | none => cases q
    | some y =>
      cases y with
      | d x => cases q; exact h.dat i _ e
      | o ds => cases q
      | m a ds => cases q
theorem EnvM.seen (h : EnvM K M M' H0 H σ ρ) : EnvD K (vis M H) σ (seen ρ) := by
  refine ⟨by rw [h.len]; unfold Lm.seen; rw [List.length_map], fun i d q => ?_⟩
  unfold Lm.seen at q
  rw [List.getElem?_map] at q
  cases e : ρ[i]? with
  | none => rw [e] at q; cases q
  | some y =>
    rw [e] at q
    cases y with
    | none => cases q
    | some y =>
      cases y with
      | d x => cases q; exact (h.dat i _ e).imp fun v p => ⟨p.1, dp_same (vis_le h.le) _ _ p.2⟩
      | o ds =>
        cases q
        obtain ⟨p, vs, a, _, b, c, d, f, g⟩ := h.own i _ ds e rfl
        refine ⟨_, a, .lst (SqL.of ?_) (dpAll_same (vis_le h.le) _ _ g)⟩
        unfold vis
        rw [d, if_neg Bool.false_ne_true]
        exact b
      | m a0 ds =>
        cases q
        obtain ⟨p, vs, a, _, b, c, d, f, g⟩ := h.own i _ ds e rfl
        refine ⟨_, a, .lst (SqL.of ?_) (dpAll_same (vis_le h.le) _ _ g)⟩
        unfold vis
        rw [d, if_neg Bool.false_ne_true]
        exact b
theorem getset {α : Type} {l : List α} {i j : Nat} {a b : α} (h : (l.set i a)[j]? = some b) : (i = j ∧ i < l.length ∧ a = b) ∨ (i ≠ j ∧ l[j]? = some b) := by
  by_cases c : i = j
  · subst c
    by_cases d : i < l.length
    · rw [List.getElem?_set_self d] at h
      exact .inl ⟨rfl, d, Option.some.inj h⟩
    · rw [List.getElem?_eq_none (by rw [List.length_set]; omega)] at h
      cases h
  · rw [List.getElem?_set_ne c] at h
    exact .inr ⟨c, h⟩
theorem EnvM.put (h : EnvM K M M' H0 H σ ρ) (hd : Dp K (vis M' H) v x) (i : Nat) : EnvM K M M' H0 H (σ.set i (some v)) (ρ.set i (some (.d x))) := by
  refine ⟨h.le, h.hid, h.same, by rw [List.length_set, List.length_set, h.len], h.new, fun j y q => ?_, fun j y ds q l => ?_, fun j k y y' ds es p n q1 l1 q2 l2 s1 s2 => ?_⟩
  · rcases getset q with ⟨rfl, l, e⟩ | ⟨c, q⟩
    · cases e
      exact ⟨v, List.getElem?_set_self (by rw [h.len]; exact l), hd⟩
    · obtain ⟨u, a, b⟩ := h.dat j y q
      exact ⟨u, by rw [List.getElem?_set_ne c]; exact a, b⟩
  · rcases getset q with ⟨rfl, _, e⟩ | ⟨c, q⟩
    · cases e; cases l
    · obtain ⟨p, vs, a, b⟩ := h.own j y ds q l
      exact ⟨p, vs, by rw [List.getElem?_set_ne c]; exact a, b⟩
  · rcases getset q1 with ⟨rfl, _, e⟩ | ⟨c, q1⟩
    · cases e; cases l1
    rcases getset q2 with ⟨rfl, _, e⟩ | ⟨c2, q2⟩
    · cases e; cases l2
    rw [List.getElem?_set_ne c] at s1
    rw [List.getElem?_set_ne c2] at s2
    exact h.dif j k y y' ds es p n q1 l1 q2 l2 s1 s2
/-- a new list of the def's own -/
theorem EnvM.lay2 {p : Addr} {vs : List V} {ds : List PyData} {H' : Hp} (h : EnvM K M M' H0 H σ ρ) (e2 : Same H H') (np : H p = none) (hp : H' p = some (.lst vs)) (ha : DpAll K (vis (fun b => M' b || b == p) H') vs ds) (i : Nat) : EnvO K M H0 H' (σ.set i (some (.ref p))) (ρ.set i (some (.o ds))) := by
  have n0 : H0 p = none := by
    cases e : H0 p with
    | none => rfl
    | some u => rw [h.same _ _ e] at np; cases np
  have nM' : M' p = false := h.hid.non np
  have nM : M p = false := by
    cases e : M p with
    | false => rfl
    | true => rw [h.le p e] at nM'; cases nM'
  have sv : Same (vis M' H) (vis (fun b => M' b || b == p) H') := same_vis_or np e2
  refine ⟨fun b => M' b || b == p, fun b z => by rw [h.le b z]; rfl, hid_or (h.hid.same e2) hp, h.same.trans e2, by rw [List.length_set, List.length_set, h.len], fun b z => ?_, fun j y q => ?_, fun j y es q ly => ?_, fun j k y y' es fs q n q1 l1 q2 l2 s1 s2 => ?_⟩
  · rcases (Bool.or_eq_true _ _).mp z with z | z
    · exact h.new b z
    · rw [eq_of_beq z]; exact .inr n0
  · rcases getset q with ⟨rfl, l, e⟩ | ⟨c, q⟩
    · cases e
    · obtain ⟨u, a, b⟩ := h.dat j y q
      exact ⟨u, by rw [List.getElem?_set_ne c]; exact a, dp_same sv _ _ b⟩
  · rcases getset q with ⟨rfl, l, e⟩ | ⟨c, q⟩
    · cases e
      cases ly
      exact ⟨p, vs, List.getElem?_set_self (by rw [h.len]; exact l), trivial, hp, by simp, nM, n0, ha⟩
    · obtain ⟨r, ws, a, a', b, c1, c2, c3, c4⟩ := h.own j y es q ly
      exact ⟨r, ws, by rw [List.getElem?_set_ne c]; exact a, a', e2 _ _ b, by rw [c1]; rfl, c2, c3, dpAll_same sv _ _ c4⟩
  · have fresh : ∀ (j : Nat) (y : Ent) (es : List PyData), ρ[j]? = some (some y) → y.lst = some es → σ[j]? = some (some (.ref p)) → False := fun j y es q l s => by
      obtain ⟨r, ws, a, _, b, _⟩ := h.own j y es q l
      rw [s] at a
      cases a
      rw [np] at b
      cases b
    rcases getset q1 with ⟨rfl, l, e⟩ | ⟨c, q1⟩
    · rw [List.getElem?_set_self (by rw [h.len]; exact l)] at s1
      cases s1
      rcases getset q2 with ⟨z, _⟩ | ⟨c2, q2⟩
      · exact n z
      · rw [List.getElem?_set_ne c2] at s2
        exact fresh k y' fs q2 l2 s2
    · rw [List.getElem?_set_ne c] at s1
      rcases getset q2 with ⟨rfl, l, e⟩ | ⟨c2, q2⟩
      · rw [List.getElem?_set_self (by rw [h.len]; exact l)] at s2
        cases s2
        exact fresh j y es q1 l1 s1
      · rw [List.getElem?_set_ne c2] at s2
        exact h.dif j k y y' es fs q n q1 l1 q2 l2 s1 s2
theorem EnvM.lay {p : Addr} {vs : List V} {ds : List PyData} (h : EnvM K M M' H0 H σ ρ) (np : H p = none) (ha : DpAll K (vis M' H) vs ds) (i : Nat) : EnvO K M H0 (upd H p (.lst vs)) (σ.set i (some (.ref p))) (ρ.set i (some (.o ds))) :=
  h.lay2 (same_new np _) np upd_same (dpAll_same (same_vis_or np (same_new np _)) _ _ ha) i
/-- an own list is written -/
theorem EnvM.mut {p : Addr} {vs : List V} {ds es : List PyData} {i : Nat} {y0 : Ent} {H' : Hp} (h : EnvM K M M' H0 H σ ρ) (hi : ρ[i]? = some (some y0)) (hl : y0.lst = some ds) (hp : σ[i]? = some (some (.ref p)))
    (ne : ∀ b u, b ≠ p → H b = some u → H' b = some u) (hv : H' p = some (.lst vs)) (ha : DpAll K (vis M' H') vs es) : EnvM K M M' H0 H' σ (ρ.set i (some (y0.wth es))) := by
  obtain ⟨r, ws, a, a0, b, c1, c2, c3, c4⟩ := h.own i y0 ds hi hl
  rw [hp] at a
  cases a
  have ve : Same (vis M' H) (vis M' H') := fun b u z => by
    unfold vis at z ⊢
    split at z
    · cases z
    · rename_i c
      rw [if_neg c]
      exact ne b u (fun e => c (e ▸ c1)) z
  have il : i < σ.length := (List.getElem?_eq_some_iff.mp hp).1
  refine ⟨h.le, fun q c => ?_, fun q u z => ?_, by rw [List.length_set, h.len], h.new, fun j y q => ?_, fun j y fs q l => ?_, fun j k y y' fs gs q n q1 l1 q2 l2 s1 s2 => ?_⟩
  · by_cases e : q = p
    · rw [e]; exact .inl ⟨vs, hv⟩
    · rcases h.hid q c with ⟨xs, e1⟩ | ⟨xs, e1⟩
      · exact .inl ⟨xs, ne _ _ e e1⟩
      · exact .inr ⟨xs, ne _ _ e e1⟩
  · exact ne _ _ (fun e => by rw [e, c3] at z; cases z) (h.same _ _ z)
  · rcases getset q with ⟨rfl, _, e⟩ | ⟨c, q⟩
    · exfalso
      have := Option.some.inj e
      have l2 := Ent.wth_lst (es := es) hl
      rw [this] at l2
      cases l2
    · exact (h.dat j y q).imp fun v p => ⟨p.1, dp_same ve _ _ p.2⟩
  · rcases getset q with ⟨rfl, _, e⟩ | ⟨c, q⟩
    · cases e
      rw [Ent.wth_lst hl] at l
      cases l
      exact ⟨p, vs, hp, Ent.wth_on a0, hv, c1, c2, c3, ha⟩
    · obtain ⟨r, us, a, a', b', d1, d2, d3, d4⟩ := h.own j y fs q l
      have nep : r ≠ p := fun e => h.dif i j y0 y ds fs p c hi hl q l hp (e ▸ a)
      exact ⟨r, us, a, a', ne _ _ nep b', d1, d2, d3, dpAll_same ve _ _ d4⟩
  · have old : ∀ (j : Nat) (y : Ent) (es' : List PyData), (ρ.set i (some (y0.wth es)))[j]? = some (some y) → y.lst = some es' → ∃ y2 ds', ρ[j]? = some (some y2) ∧ y2.lst = some ds' := fun j y es' z l => by
      rcases getset z with ⟨rfl, _, e⟩ | ⟨c, z⟩
      · exact ⟨_, _, hi, hl⟩
      · exact ⟨_, _, z, l⟩
    obtain ⟨y1, x1, z1, w1⟩ := old j y fs q1 l1
    obtain ⟨y2, x2, z2, w2⟩ := old k y' gs q2 l2
    exact h.dif j k y1 y2 x1 x2 q n z1 w1 z2 w2 s1 s2
theorem EnvM.writeE {p : Addr} {vs : List V} {ds es : List PyData} {i : Nat} {y0 : Ent} (h : EnvM K M M' H0 H σ ρ) (hi : ρ[i]? = some (some y0)) (hl : y0.lst = some ds) (hp : σ[i]? = some (some (.ref p))) (ha : DpAll K (vis M' H) vs es) : EnvM K M M' H0 (upd H p (.lst vs)) σ (ρ.set i (some (y0.wth es))) := by
  obtain ⟨r, ws, a, a0, b, c1, c2, c3, c4⟩ := h.own i y0 ds hi hl
  rw [hp] at a
  cases a
  exact h.mut hi hl hp (fun b u n q => by rw [upd_ne n]; exact q) upd_same (by rw [vis_upd c1]; exact ha)
theorem EnvM.write {p : Addr} {vs : List V} {ds es : List PyData} {i : Nat} (h : EnvM K M M' H0 H σ ρ) (hi : ρ[i]? = some (some (.o ds))) (hp : σ[i]? = some (some (.ref p))) (ha : DpAll K (vis M' H) vs es) : EnvM K M M' H0 (upd H p (.lst vs)) σ (ρ.set i (some (.o es))) :=
  h.writeE hi rfl hp ha
/-- an own list is data from now on -/
theorem EnvM.freeze {ds : List PyData} {i : Nat} (h : EnvM K M M' H0 H σ ρ) (hi : ρ[i]? = some (some (.o ds))) : EnvO K M H0 H σ (ρ.set i (some (.d (.list ds)))) := by
  obtain ⟨p, ws, a, _, b, c1, c2, c3, c4⟩ := h.own i _ ds hi rfl
  have le : ∀ q, (M' q && !(q == p)) = true → M' q = true := fun q z => ((Bool.and_eq_true _ _).mp z).1
  have sv : Same (vis M' H) (vis (fun q => M' q && !(q == p)) H) := vis_le le
  refine ⟨fun q => M' q && !(q == p), fun q z => ?_, fun q z => h.hid q (le q z), h.same, by rw [List.length_set, h.len], fun q z => h.new q (le q z), fun j y q => ?_, fun j y fs q ly => ?_, fun j k y y' fs gs q n q1 l1 q2 l2 s1 s2 => ?_⟩
  · have ne : (q == p) = false := beq_eq_false_iff_ne.mpr fun e => by rw [e, c2] at z; cases z
    rw [h.le q z, ne]
    rfl
  · rcases getset q with ⟨rfl, l, e⟩ | ⟨c, q⟩
    · cases e
      refine ⟨_, a, .lst (SqL.of ?_) (dpAll_same sv _ _ c4)⟩
      unfold vis
      have : ¬ (M' p && !(p == p)) = true := by simp
      rw [if_neg this]
      exact b
    · obtain ⟨u, a', b'⟩ := h.dat j y q
      exact ⟨u, a', dp_same sv _ _ b'⟩
  · rcases getset q with ⟨rfl, l, e⟩ | ⟨c, q⟩
    · cases e; cases ly
    · obtain ⟨r, us, a', a2, b', d1, d2, d3, d4⟩ := h.own j y fs q ly
      have ne : (r == p) = false := beq_eq_false_iff_ne.mpr fun e => h.dif i j _ y ds fs p c hi rfl q ly a (e ▸ a')
      exact ⟨r, us, a', a2, b', by rw [d1, ne]; rfl, d2, d3, dpAll_same sv _ _ d4⟩
  · rcases getset q1 with ⟨rfl, l, e⟩ | ⟨c, q1⟩
    · cases e; cases l1
    rcases getset q2 with ⟨rfl, l, e⟩ | ⟨c2, q2⟩
    · cases e; cases l2
    exact h.dif j k y y' fs gs q n q1 l1 q2 l2 s1 s2
/-- what is visible now is not written henceforth -/
theorem EnvM.base (h : EnvM K M M' H0 H σ ρ) : ∃ Hb, EnvM K M M' Hb H σ ρ ∧ Same H0 Hb ∧ (∀ b u, vis M' H b = some u → Hb b = some u) := by
  refine ⟨fun b => if (H0 b).isSome = true then H0 b else vis M' H b, ⟨h.le, h.hid, fun b u z => ?_, h.len, fun b z => ?_, h.dat, fun i y ds q l => ?_, h.dif⟩, fun b u z => ?_, fun b u z => ?_⟩
  · have z : (if (H0 b).isSome = true then H0 b else vis M' H b) = some u := z
    split at z
    · exact h.same _ _ z
    · exact vis_sub _ _ z
  · rcases h.new b z with n | n
    · exact .inl n
    · refine .inr ?_
      show (if (H0 b).isSome = true then H0 b else vis M' H b) = none
      rw [n]
      unfold vis
      rw [z]
      rfl
  · obtain ⟨p, vs, a, a', b, c, d, f, g⟩ := h.own i y ds q l
    refine ⟨p, vs, a, a', b, c, d, ?_, g⟩
    show (if (H0 p).isSome = true then H0 p else vis M' H p) = none
    rw [f]
    unfold vis
    rw [c]
    rfl
  · show (if (H0 b).isSome = true then H0 b else vis M' H b) = some u
    rw [z]
    rfl
  · show (if (H0 b).isSome = true then H0 b else vis M' H b) = some u
    split
    · rename_i c
      obtain ⟨w, e⟩ := Option.isSome_iff_exists.mp c
      have z2 := vis_sub b u z
      rw [h.same _ _ e] at z2
      rw [e]
      exact z2
    · exact z
end
inductive OutO where
  | rt (d : PyData)
  | ro (ds : List PyData)
  | nx (ρ : RhoO)
  | ct (ρ : RhoO)
  | bk (ρ : RhoO)
  /-- back, nothing told, a list handed in grown to this -/
  | rm (a : Addr) (ds : List PyData)
def PostO (K : PySem.W.Frag) (M : Addr → Bool) (H0 : Hp) (D : Ends) : OutO → Prop
  | .rt d => ∀ v H', Same H0 H' → Dp K (vis M H') v d → D.rt v H'
  | .ro ds => ∀ p xs H', Same H0 H' → H0 p = none → M p = false → H' p = some (.lst xs) → DpAll K (vis (fun b => M b || b == p) H') xs ds → D.rt (.ref p) H'
  | .nx ρ => ∀ σ H', EnvO K M H0 H' σ ρ → D.nx σ H'
  | .ct ρ => ∀ σ H', EnvO K M H0 H' σ ρ → D.ct σ H'
  | .bk ρ => ∀ σ H', EnvO K M H0 H' σ ρ → D.bk σ H'
  | .rm a ds => ∀ vs H', Same H0 H' → H' a = some (.lst vs) → DpAll K (vis (fun b => M b || b == a) H') vs ds → D.rt .non H'
def PuO (K : PySem.W.Frag) (t : TS) (ρ : RhoO) (o : OutO) : Prop := ∀ (M : Addr → Bool) H0 H σ, EnvO K M H0 H σ ρ → ∀ D, PostO K M H0 D o → t D σ H
/-- a target over slots of both kinds -/
def PgO (K : PySem.W.Frag) (g : TG) (ρ : RhoO) (d : PyData) (ρ' : RhoO) : Prop := ∀ (M M' : Addr → Bool) H0 H σ v, EnvM K M M' H0 H σ ρ → Dp K (vis M' H) v d → ∀ R : L2.St → Hp → Prop, (∀ σ', EnvM K M M' H0 H σ' ρ' → R σ' H) → g v σ H R
section
variable {K : PySem.W.Frag} {ρ ρ' ρ'' : RhoO} {te ta tb tc : TE} {tA : TA} {tt : TT} {d e : PyData} {ds es : List PyData} {wi : TI} {g : TG} {vs : List Nat} {t u : TS} {o : OutO}
theorem PuO.cast {o' : OutO} (h : PuO K t ρ o) (e : o = o') : PuO K t ρ o' := e ▸ h
theorem puo_ret (h : PuE K te (seen ρ) d) : PuO K (tRet te) ρ (.rt d) := fun M H0 H σ ⟨M', en⟩ D q => h M σ H en.hidM en.seen _ fun v H1 e1 hv => q v H1 (en.same.trans e1) hv
theorem puo_retN : PuO K tRetN ρ (.rt .none) := fun M H0 H σ ⟨M', en⟩ D q => q _ H en.same .non
theorem puo_next : PuO K tNext ρ (.nx ρ) := fun M H0 H σ en D q => q σ H en
theorem puo_cont : PuO K tCont ρ (.ct ρ) := fun M H0 H σ en D q => q σ H en
theorem puo_seq (h : PuO K t ρ (.nx ρ')) (k : PuO K u ρ' o) : PuO K (tSeq t u) ρ o := fun M H0 H σ en D q =>
  h M H0 H σ en _ fun σ1 H1 en1 => k M H0 H1 σ1 en1 D q
theorem puo_early (h : PuO K t ρ o) (n : ∀ ρ', o ≠ .nx ρ') : PuO K (tSeq t u) ρ o := fun M H0 H σ en D q => h M H0 H σ en _ (by
  cases o with
  | rt d => exact q
  | ro d => exact q
  | nx ρ => exact absurd rfl (n ρ)
  | ct ρ => exact q
  | bk ρ => exact q
  | rm a ds => exact q)
/-- a slot forgotten -/
theorem EnvM.forget {M M' : Addr → Bool} {H0 H : Hp} {σ : L2.St} (h : EnvM K M M' H0 H σ ρ) (i : Nat) : EnvM K M M' H0 H σ (ρ.set i none) := by
  refine ⟨h.le, h.hid, h.same, by rw [List.length_set, h.len], h.new, fun j y q => ?_, fun j y fs q ly => ?_, fun j k y y' fs gs q n q1 l1 q2 l2 s1 s2 => ?_⟩
  · rcases getset q with ⟨rfl, l, e⟩ | ⟨c, q⟩
    · cases e
    · exact h.dat j y q
  · rcases getset q with ⟨rfl, l, e⟩ | ⟨c, q⟩
    · cases e
    · exact h.own j y fs q ly
  · rcases getset q1 with ⟨rfl, l, e⟩ | ⟨c, q1⟩
    · cases e
    rcases getset q2 with ⟨rfl, l, e⟩ | ⟨c2, q2⟩
    · cases e
    exact h.dif j k y y' fs gs q n q1 l1 q2 l2 s1 s2
theorem puo_forget (i : Nat) (h : PuO K t ρ (.nx ρ')) : PuO K t ρ (.nx (ρ'.set i none)) := fun M H0 H σ en D q => h M H0 H σ en D fun σ' H' ⟨N, e⟩ => q σ' H' ⟨N, e.forget i⟩
theorem puo_retO {i : Nat} (hi : ρ[i]? = some (some (.o ds))) : PuO K (tRet (tVar i)) ρ (.ro ds) := fun M H0 H σ ⟨M', en⟩ D q => by
  obtain ⟨p, ws, a, _, b, c1, c2, c3, c4⟩ := en.own i _ ds hi rfl
  refine ⟨_, a, q p ws H en.same c3 c2 b (dpAll_same (vis_le fun b z => ?_) _ _ c4)⟩
  rcases (Bool.or_eq_true _ _).mp z with z | z
  · exact en.le b z
  · rw [eq_of_beq z]; exact c1
theorem puo_if {b : Bool} (h : PuT K tt (seen ρ) b) (k : b = true → PuO K t ρ o) (k' : b = false → PuO K u ρ o) : PuO K (tIfS tt t u) ρ o := fun M H0 H σ ⟨M', en⟩ D q => h M σ H en.hidM en.seen _ fun H1 e1 => by
  cases b with
  | true => exact iteT (k rfl M H0 H1 σ ⟨M', en.next e1⟩ D q)
  | false => exact iteF (k' rfl M H0 H1 σ ⟨M', en.next e1⟩ D q)
theorem puo_ifr {b : Bool} (h : PuT K tt (seen ρ) b) (k : b = true → ∃ e, o = .rt e ∧ PuO K t ρ (.rt e)) (k' : b = false → PuO K u ρ o) : PuO K (tSeq (tIfS tt t tNext) u) ρ o := by
  cases b with
  | true =>
    obtain ⟨e, rfl, h2⟩ := k rfl
    exact puo_early (puo_if h (fun _ => h2) (fun z => nomatch z)) (fun _ z => nomatch z)
  | false => exact puo_seq (puo_if h (fun z => nomatch z) (fun _ => puo_next)) (k' rfl)
theorem puo_set {i : Nat} (h : PuE K te (hidn ρ) d) (k : PuO K u (ρ.set i (some (.d d))) o) : PuO K (tSeq (tAsg te (gName i)) u) ρ o := puo_seq (ρ' := ρ.set i (some (.d d))) (fun M H0 H σ ⟨M', en⟩ D q => h M' σ H en.hid en.hidn _ fun v H1 e1 hv => q _ H1 ⟨M', (en.next e1).put hv i⟩) k
def flatD : PyData → Bool
  | .none => true
  | .bool _ => true
  | .int _ => true
  | .str _ => true
  | _ => false
theorem dp_flat {H H' : Hp} {v : V} {d : PyData} (f : flatD d = true) (h : Dp K H v d) : Dp K H' v d := by
  cases h with
  | non => exact .non
  | bl b => exact .bl b
  | int i => exact .int i
  | str x => exact .str x
  | lst _ _ => cases f
  | tup _ _ => cases f
/-- .. a flat thing, reckoned of own lists too -/
theorem puo_setF {i : Nat} (f : flatD d = true) (h : PuE K te (seen ρ) d) (k : PuO K u (ρ.set i (some (.d d))) o) : PuO K (tSeq (tAsg te (gName i)) u) ρ o := puo_seq (ρ' := ρ.set i (some (.d d))) (fun M H0 H σ ⟨M', en⟩ D q => h M σ H en.hidM en.seen _ fun v H1 e1 hv => q _ H1 ⟨M', (en.next e1).put (dp_flat f hv) i⟩) k
theorem puo_new {i : Nat} (h : PuA K tA (hidn ρ) ds) (hl : ds.length ≤ 100000) (k : PuO K u (ρ.set i (some (.o ds))) o) : PuO K (tSeq (tAsg (tLst tA) (gName i)) u) ρ o := puo_seq (ρ' := ρ.set i (some (.o ds))) (fun M H0 H σ ⟨M', en⟩ D q => h M' σ H en.hid en.hidn _ fun vs H1 e1 hvs =>
  ⟨sl1000 (by rw [dpAll_len hvs]; exact hl), fun p np => q _ _ ((en.next e1).lay np hvs i)⟩) k
theorem puo_asg (h : PuE K te (hidn ρ) d) (hg : PgO K g ρ d ρ') (k : PuO K u ρ' o) : PuO K (tSeq (tAsg te g) u) ρ o := puo_seq (ρ' := ρ') (fun M H0 H σ ⟨M', en⟩ D q => h M' σ H en.hid en.hidn _ fun v H1 e1 hv => hg M M' H0 H1 σ v (en.next e1) hv _ fun σ' en' => q _ H1 ⟨M', en'⟩) k
theorem puo_appendE {i : Nat} {y0 : Ent} (hi : ρ[i]? = some (some y0)) (hy : y0.lst = some ds) (hl : ds.length < 100000) (h : PuE K te (hidn ρ) d) : PuO K (tDrop (tBM K "list" rAppend (tVar i) (tCons te tNil))) ρ (.nx (ρ.set i (some (y0.wth (ds ++ [d]))))) := fun M H0 H σ ⟨M', en⟩ D q => by
  obtain ⟨p, ws, a, _, b, c1, c2, c3, c4⟩ := en.own i y0 ds hi hy
  refine ⟨_, a, .inl ⟨rfl, _, SqL.of b⟩, h M' σ H en.hid en.hidn _ fun v H1 e1 hv => ?_⟩
  have en1 := en.next e1
  refine ⟨p, ws, v, rfl, rfl, e1 _ _ b, sl1001 (by rw [dpAll_len c4]; exact hl), q σ _ ⟨M', en1.writeE hi hy a ?_⟩⟩
  exact dpAll_app (dpAll_same (vis_same e1) _ _ c4) (.cons hv .nil)
theorem puo_append {i : Nat} (hi : ρ[i]? = some (some (.o ds))) (hl : ds.length < 100000) (h : PuE K te (hidn ρ) d) : PuO K (tDrop (tBM K "list" rAppend (tVar i) (tCons te tNil))) ρ (.nx (ρ.set i (some (.o (ds ++ [d]))))) := puo_appendE hi rfl hl h
/-- back, with a list handed in -/
theorem puo_retM {i : Nat} {a : Addr} (hi : ρ[i]? = some (some (.m a ds))) : PuO K tRetN ρ (.rm a ds) := fun M H0 H σ ⟨M', en⟩ D q => by
  obtain ⟨p, ws, _, a0, b, c1, c2, c3, c4⟩ := en.own i _ ds hi rfl
  have a0 : p = a := a0
  subst a0
  refine q ws H en.same b (dpAll_same (vis_le fun b z => ?_) _ _ c4)
  rcases (Bool.or_eq_true _ _).mp z with z | z
  · exact en.le b z
  · rw [eq_of_beq z]; exact c1
theorem puo_ifg {b : Bool} (h : PuT K tt (seen ρ) b) (k : b = true → (∀ ρ', o ≠ .nx ρ') ∧ PuO K t ρ o) (k' : b = false → PuO K u ρ o) : PuO K (tSeq (tIfS tt t tNext) u) ρ o := by
  cases b with
  | true => exact puo_early (puo_if h (fun _ => (k rfl).2) (fun z => nomatch z)) (k rfl).1
  | false => exact puo_seq (puo_if h (fun z => nomatch z) (fun _ => puo_next)) (k' rfl)
theorem puo_freeze {i : Nat} (hi : ρ[i]? = some (some (.o ds))) (k : PuO K u (ρ.set i (some (.d (.list ds)))) o) : PuO K u ρ o := fun M H0 H σ ⟨M', en⟩ D q => k M H0 H σ (en.freeze hi) D q
/-! targets -/
theorem pgo_name (j : Nat) : PgO K (gName j) ρ d (ρ.set j (some (.d d))) := fun M M' H0 H σ v en hd R r => r _ (en.put hd j)
theorem pgo_two (j k : Nat) : PgO K (gTup K 2 (gCons (gName j) (gCons (gName k) gNil))) ρ (.tuple [d, e]) ((ρ.set j (some (.d d))).set k (some (.d e))) := fun M M' H0 H σ v en hd R r => by
  obtain ⟨a, xs, rfl, hs, ha⟩ := dp_tupI hd
  cases ha with
  | cons h1 ha =>
    cases ha with
    | cons h2 ha =>
      cases ha
      exact ⟨a, _, rfl, sqT_same vis_sub hs, rfl, _, _, rfl, _, _, rfl, rfl, r _ ((en.put h1 j).put h2 k)⟩
theorem pgo_three {f : PyData} (j k l : Nat) : PgO K (gTup K 3 (gCons (gName j) (gCons (gName k) (gCons (gName l) gNil)))) ρ (.tuple [d, e, f]) (((ρ.set j (some (.d d))).set k (some (.d e))).set l (some (.d f))) := fun M M' H0 H σ v en hd R r => by
  obtain ⟨a, xs, rfl, hs, ha⟩ := dp_tupI hd
  cases ha with
  | cons h1 ha =>
    cases ha with
    | cons h2 ha =>
      cases ha with
      | cons h3 ha =>
        cases ha
        exact ⟨a, _, rfl, sqT_same vis_sub hs, rfl, _, _, rfl, _, _, rfl, _, _, rfl, rfl, r _ (((en.put h1 j).put h2 k).put h3 l)⟩
/-! loops -/
/-- what a turn gives: on to the next, or out of the def -/
theorem puo_for {α : Type} {xs : List α} {td : α → PyData} {tb : TS} {k : Nat} (F : Nat → RhoO) (hi : PuI K wi (hidn ρ) (xs.map td)) (h0 : ρ = F 0) (hk : k ≤ xs.length)
    (hb : ∀ i x, i < k → xs[i]? = some x → ∃ ρ1, PgO K g (F i) (td x) ρ1 ∧ (PuO K tb ρ1 (.nx (F (i + 1))) ∨ PuO K tb ρ1 (.ct (F (i + 1)))))
    (hr : (k = xs.length ∧ o = .nx (F k)) ∨ (∃ x r, xs[k]? = some x ∧ o = .rt r ∧ ∃ ρ1, PgO K g (F k) (td x) ρ1 ∧ PuO K tb ρ1 (.rt r)) ∨ (∃ x ρ2, xs[k]? = some x ∧ o = .nx ρ2 ∧ ∃ ρ1, PgO K g (F k) (td x) ρ1 ∧ PuO K tb ρ1 (.bk ρ2))) : PuO K (tFor wi g tb) ρ o := fun M H0 H σ ⟨M', en⟩ D q => by
  subst h0
  refine hi M' σ H en.hid en.hidn _ fun J H1 e1 it => ?_
  have en1 := en.next e1
  obtain ⟨Hb, enb, s0, sb⟩ := en1.base
  have back : ∀ b, Hb b = none → H0 b = none := fun b n => by
    cases c : H0 b with
    | none => rfl
    | some u => rw [s0 _ _ c] at n; cases n
  have out : ∀ {σ' : L2.St} {Hn : Hp} {ρ' : RhoO}, EnvO K M Hb Hn σ' ρ' → EnvO K M H0 Hn σ' ρ' := fun {σ' Hn ρ'} ⟨N, e⟩ => by
    refine ⟨N, e.le, e.hid, s0.trans e.same, e.len, fun b z => (e.new b z).imp id (back b), e.dat, fun i y ds z l => ?_, e.dif⟩
    obtain ⟨p, vs, a1, a0, a2, a3, a4, a5, a6⟩ := e.own i y ds z l
    exact ⟨p, vs, a1, a0, a2, a3, a4, back p a5, a6⟩
  have sg : ∀ {N : Addr → Bool} {Hn : Hp} {σ' : L2.St} {ρ' : RhoO}, EnvM K M N Hb Hn σ' ρ' → Same (vis M' H1) (vis N Hn) := fun {N Hn σ' ρ'} e b u z => by
    have zb := sb b u z
    have zn := e.same _ _ zb
    have nN : N b = false := by
      cases c : N b with
      | false => rfl
      | true =>
        rcases e.new b c with n | n
        · unfold vis at z
          rw [enb.le b n, if_pos rfl] at z
          cases z
        · rw [zb] at n; cases n
    unfold vis
    rw [nN, if_neg Bool.false_ne_true]
    exact zn
  refine ⟨fun i m σ' Hn => m = xs.length - i ∧ i ≤ k ∧ EnvO K M Hb Hn σ' (F i), ⟨_, rfl, Nat.zero_le _, M', enb⟩, ?_⟩
  rintro i m σ' Hn ⟨rfl, ile, N, en'⟩
  have sgn := sg en'
  by_cases c : i < xs.length
  · have hx : xs[i]? = some xs[i] := List.getElem?_eq_getElem c
    by_cases ik : i < k
    · refine .inr ⟨it.go i Hn (sgn.trans vis_sub) (by rw [List.length_map]; exact c), fun σ'' H' => i + 1 ≤ k ∧ EnvO K M Hb H' σ'' (F (i + 1)), fun σ'' H' nx => ⟨_, by omega, rfl, nx⟩, fun x Hy y => ?_⟩
      obtain ⟨sy, dy⟩ := it.yl i Hn x Hy (td xs[i]) (sgn.trans vis_sub) (by rw [List.getElem?_map, hx]; rfl) y
      have hdx := dy N en'.hid sgn
      obtain ⟨ρ1, hg, ht⟩ := hb i xs[i] ik hx
      refine hg M N Hb Hy σ' x (en'.next sy) hdx _ fun σ2 en2 => ?_
      rcases ht with ht | ht
      · exact ht M Hb Hy σ2 ⟨N, en2⟩ _ fun σ3 H3 en3 => ⟨ik, en3⟩
      · exact ht M Hb Hy σ2 ⟨N, en2⟩ _ fun σ3 H3 en3 => ⟨ik, en3⟩
    · have e : i = k := by omega
      subst e
      rcases hr with ⟨z, _⟩ | ⟨x, r, hxk, rfl, ρ1, hg, ht⟩ | ⟨x, ρ2, hxk, rfl, ρ1, hg, ht⟩
      · omega
      · rw [hx] at hxk
        cases hxk
        refine .inr ⟨it.go i Hn (sgn.trans vis_sub) (by rw [List.length_map]; exact c), fun σ'' H' => False, (fun σ'' H' nx => nx.elim), fun x Hy y => ?_⟩
        obtain ⟨sy, dy⟩ := it.yl i Hn x Hy (td xs[i]) (sgn.trans vis_sub) (by rw [List.getElem?_map, hx]; rfl) y
        have hdx := dy N en'.hid sgn
        refine hg M N Hb Hy σ' x (en'.next sy) hdx _ fun σ2 en2 => ?_
        exact ht M Hb Hy σ2 ⟨N, en2⟩ _ fun v H3 e3 hv => q v H3 (s0.trans e3) hv
      · rw [hx] at hxk
        cases hxk
        refine .inr ⟨it.go i Hn (sgn.trans vis_sub) (by rw [List.length_map]; exact c), fun σ'' H' => False, (fun σ'' H' nx => nx.elim), fun x Hy y => ?_⟩
        obtain ⟨sy, dy⟩ := it.yl i Hn x Hy (td xs[i]) (sgn.trans vis_sub) (by rw [List.getElem?_map, hx]; rfl) y
        have hdx := dy N en'.hid sgn
        refine hg M N Hb Hy σ' x (en'.next sy) hdx _ fun σ2 en2 => ?_
        exact ht M Hb Hy σ2 ⟨N, en2⟩ _ fun σ3 H3 en3 => q σ3 H3 (out en3)
  · have e : i = xs.length := by omega
    rcases hr with ⟨z, rfl⟩ | ⟨x, r, hxk, _⟩ | ⟨x, r, hxk, _⟩
    · have e2 : i = k := by omega
      subst e2
      exact .inl ⟨it.st _ Hn (sgn.trans vis_sub) (by rw [List.length_map]; omega), q σ' Hn (out ⟨N, en'⟩)⟩
    · have := (List.getElem?_eq_some_iff.mp hxk).1
      omega
    · have := (List.getElem?_eq_some_iff.mp hxk).1
      omega
end
/-- a def that hands back a list of its own making -/
def spOwn (K : PySem.W.Frag) (m : Nat) (g : List PyData → List PyData → Prop) : Sp := fun vs H Q _ => ∃ M ds es, Hid M H ∧ vs.length = m ∧ DpAll K (vis M H) vs ds ∧ g ds es ∧ ∀ p xs H', Same H H' → H p = none → H' p = some (.lst xs) → DpAll K (vis (fun b => M b || b == p) H') xs es → Q (.ref p) H'
section
variable {K : PySem.W.Frag} {ρ : Rho} {tA : TA} {ds es : List PyData}
theorem pu_callO {m : Nat} {g : List PyData → List PyData → Prop} (h : PuA K tA ρ ds) (hm : ds.length = m := by rfl) (hg : g ds es) : PuE K (tCall (spOwn K m g) [] E0 tA) ρ (.list es) := fun M σ H hid en Q q =>
  h M σ H hid en _ fun vs H1 e1 hvs => ⟨M, ds, es, hid.same e1, by rw [List.append_nil, dpAll_len hvs, hm], by rw [List.append_nil]; exact hvs, hg, fun p xs H' e2 np hp ha => by
    refine q (.ref p) H' (e1.trans e2) (.lst (SqL.of ?_) (dpAll_same vis_or_same _ _ ha))
    unfold vis
    rw [(hid.same e1).non np, if_neg Bool.false_ne_true]
    exact hp⟩
end
theorem puo_setO {K : PySem.W.Frag} {ρ : RhoO} {tA : TA} {u : TS} {o : OutO} {ds es : List PyData} {i m : Nat} {g : List PyData → List PyData → Prop} (h : PuA K tA (hidn ρ) ds) (hm : ds.length = m := by rfl) (hg : g ds es) (k : PuO K u (ρ.set i (some (.o es))) o) : PuO K (tSeq (tAsg (tCall (spOwn K m g) [] E0 tA) (gName i)) u) ρ o :=
  puo_seq (ρ' := ρ.set i (some (.o es))) (fun M H0 H σ ⟨M', en⟩ D q => h M' σ H en.hid en.hidn _ fun vs H1 e1 hvs => ⟨M', ds, es, en.hid.same e1, by rw [List.append_nil, dpAll_len hvs, hm], by rw [List.append_nil]; exact hvs, hg, fun p xs H' e2 np hp ha =>
    q _ H' ((en.next e1).lay2 e2 np hp ha i)⟩) k
/-! ### defs -/
/-- the slots at a def's entry -/
def startD (N : List Str) (ds : List PyData) : Rho := ds.map some ++ List.replicate (N.length - ds.length) none
def startE (N : List Str) (ds : List PyData) : RhoO := (ds.map fun d => some (.d d)) ++ List.replicate (N.length - ds.length) none
theorem envD_app {K : PySem.W.Frag} {H : Hp} : ∀ {vs : List V} {ds : List PyData} (n : Nat), DpAll K H vs ds → EnvD K H (vs.map some ++ List.replicate n none) (ds.map some ++ List.replicate n none)
  | [], [], 0, _ => EnvD.nil
  | [], [], n + 1, _ => (envD_app n .nil).non none
  | _, _, n, .cons h1 h2 => (envD_app n h2).cons h1
theorem envD_start {K : PySem.W.Frag} {H : Hp} {N : List Str} {vs : List V} {ds : List PyData} (h : DpAll K H vs ds) : EnvD K H (L2.start N vs) (startD N ds) := by
  unfold L2.start startD
  rw [dpAll_len h]
  exact envD_app _ h
theorem envO_start {K : PySem.W.Frag} {M : Addr → Bool} {H : Hp} {N : List Str} {vs : List V} {ds : List PyData} (hid : Hid M H) (h : DpAll K (vis M H) vs ds) : EnvO K M H H (L2.start N vs) (startE N ds) := by
  have e := envD_start (N := N) h
  have sd : startE N ds = (startD N ds).map (·.map Ent.d) := by
    unfold startE startD
    rw [List.map_append, List.map_map, List.map_replicate]
    rfl
  refine ⟨M, fun _ z => z, hid, Same.refl _, by rw [e.1, sd, List.length_map], fun b z => .inl z, fun i x q => ?_, fun i y x q ly => ?_, fun i j y y' ds es p n q1 l1 _ _ _ _ => ?_⟩
  · rw [sd, List.getElem?_map] at q
    cases c : (startD N ds)[i]? with
    | none => rw [c] at q; cases q
    | some y =>
      rw [c] at q
      cases y with
      | none => cases q
      | some y => cases q; exact e.2 i _ c
  · rw [sd, List.getElem?_map] at q
    cases c : (startD N ds)[i]? with
    | none => rw [c] at q; cases q
    | some y =>
      rw [c] at q
      cases y with
      | none => cases q
      | some y => cases q; cases ly
  · rw [sd, List.getElem?_map] at q1
    generalize (startD N _)[i]? = y at q1
    cases y with
    | none => cases q1
    | some y =>
      cases y with
      | none => cases q1
      | some y => cases q1; cases l1
end Lm
set_option Elab.async false
set_option linter.all false
set_option maxRecDepth 100000
set_option maxHeartbeats 2000000
namespace Lm
open PySem PySem.Spec PyProof.Rows L2
/-- a def of the module that keeps a promise, callable by its name -/
def Has (P : Program) (w : World) (K : PySem.W.Frag) (mg : Str → Option Value) (base : Heap) (k : Nat) (x : Str) (ps : List Str) (sp : Sp) : Prop :=
  ∃ f fd, FnOk P w K mg base CX0 k f fd ps sp ∧ Binds K fd ps [] ∧ mg x = some (.ref f) ∧ PySem.W.keepIn K (.ref f) = true
theorem pe_callH {X : Cx} {k : Nat} {x : Str} {ps : List Str} {sp : Sp} {p pos : Pos} {e : Expr} {es : List Expr} {t : TA} (h : Has X.prog X.w X.K X.mg X.base k x ps sp) (hr : Room k X.A) (hg : Gl X x) (ha : PA X (e :: es) t) (hdb : (x == ("__debug__" : Str)) = false := by decide)
    (he : starEach (e :: es) X.env = (false, eval e X.env) :: starEach es X.env := by rfl) (hpl : (backTo pos (starEach es X.env)).any (·.1) = false := by rfl) : PE X (.Call (.Name x p) (e :: es) [] pos) (tCall sp [] E0 t) := by
  obtain ⟨f, fd, F, b, m, kp⟩ := h
  exact pe_call F hr hg m kp b .nil pass0 ha hdb he hpl
/-- how a def of the text stands behind the top -/
structure Df (K : PySem.W.Frag) (mg : Str → Option Value) (x : Str) (st : Stmt) (ps : List Str) (f : Addr) (fd : FuncData) : Prop where
  fn : Fun K x x st f fd
  bd : Binds K fd ps []
  mg_ : mg x = some (.ref f)
theorem Df.has {P : Program} {w : World} {K : PySem.W.Frag} {mg : Str → Option Value} {base : Heap} {k : Nat} {x : Str} {st : Stmt} {ps : List Str} {f : Addr} {fd : FuncData} {sp : Sp} (D : Df K mg x st ps f fd) (F : FnOk P w K mg base CX0 k f fd ps sp) : Has P w K mg base k x ps sp := ⟨f, fd, F, D.bd, D.mg_, D.fn.kp⟩
/-- the built-in names -/
structure Blt (mg : Str → Option Value) : Prop where
  isinstance : mg "isinstance" = none
  int : mg "int" = none
  bool : mg "bool" = none
  tuple : mg "tuple" = none
  str : mg "str" = none
  list : mg "list" = none
  len : mg "len" = none
  all : mg "all" = none
theorem bt_isinstance : bootBuiltins "isinstance" = some (.builtin "isinstance") := by first | exact PySem.boot_isinstance | decide +kernel
theorem bt_int : bootBuiltins "int" = some (.type "int") := by first | exact PyProof.Rows.boot_int | decide +kernel
theorem bt_bool : bootBuiltins "bool" = some (.type "bool") := by first | exact PyProof.Rows.boot_bool | decide +kernel
theorem bt_tuple : bootBuiltins "tuple" = some (.type "tuple") := by first | exact PyProof.Rows.boot_tuple | decide +kernel
theorem bt_str : bootBuiltins "str" = some (.type "str") := by first | exact PyProof.Rows.boot_str | decide +kernel
theorem bt_list : bootBuiltins "list" = some (.type "list") := by first | exact PyProof.Rows.boot_list | decide +kernel
theorem bt_all : bootBuiltins "all" = some (.builtin "all") := by first | exact PyProof.Rows.boot_all | decide +kernel
theorem bt_any : bootBuiltins "any" = some (.builtin "any") := by first | exact PyProof.Rows.boot_any | decide +kernel
theorem bt_sum : bootBuiltins "sum" = some (.builtin "sum") := by first | exact PyProof.Rows.boot_sum | decide +kernel
theorem bt_max : bootBuiltins "max" = some (.builtin "max") := by decide +kernel
theorem bt_min : bootBuiltins "min" = some (.builtin "min") := by decide +kernel
section
variable {P : Program} {w : World} {K : PySem.W.Frag} {mg : Str → Option Value} {base : Heap} {f : Addr} {fd : FuncData}
/-- a pure def by its pure reading -/
theorem ok_pu {x : Str} {st : Stmt} {N ps : List Str} {k : Nat} {g : List PyData → PyData → Prop} (D : Df K mg x st ps f fd) (S : FnScope N ps (defScope st))
    (bd : ∀ (cdv : Value) (A : Around) (outer : List Env) (s : Shared) (H : Hp) (E : XK), Room k (A.deeper (envOfC x (defScope st) s.heap.objs.size f cdv)) →
      ∃ t, PSs (cxOf CX0 P w K mg base N x (defScope st) f cdv A outer s H E).nox (defBody st) t ∧ ∀ ds d, ds.length = ps.length → g ds d → PuS K t (startD N ds) (.rt d) ∨ (d = .none ∧ ∃ ρ, PuS K t (startD N ds) (.nx ρ))) : FnOk P w K mg base CX0 (k + 1) f fd ps (spPu K ps.length g) := by
  refine D.fn.ok S (fun vs H Q E h => ?_) (fun cdv A outer s H vs Q E hr h => ?_)
  · obtain ⟨M, ds, d, _, hl, _⟩ := h
    exact hl
  obtain ⟨M, ds, d, hid, hl, hd, hg, q⟩ := h
  obtain ⟨t, ht, hp⟩ := bd cdv A outer s H E hr
  refine ⟨t, ht, ?_⟩
  have dl : ds.length = ps.length := by rw [← dpAll_len hd, hl]
  rcases hp ds d dl hg with hp | ⟨rfl, ρ, hp⟩
  · exact hp M _ H hid (envD_start hd) _ q
  · exact hp M _ H hid (envD_start hd) _ fun σ H' e _ => q _ H' e .non
theorem ok_puo {x : Str} {st : Stmt} {N ps : List Str} {k : Nat} {g : List PyData → PyData → Prop} (D : Df K mg x st ps f fd) (S : FnScope N ps (defScope st))
    (bd : ∀ (cdv : Value) (A : Around) (outer : List Env) (s : Shared) (H : Hp) (E : XK), Room k (A.deeper (envOfC x (defScope st) s.heap.objs.size f cdv)) →
      ∃ t, PSs (cxOf CX0 P w K mg base N x (defScope st) f cdv A outer s H E).nox (defBody st) t ∧ ∀ ds d, ds.length = ps.length → g ds d → PuO K t (startE N ds) (.rt d)) : FnOk P w K mg base CX0 (k + 1) f fd ps (spPu K ps.length g) := by
  refine D.fn.ok S (fun vs H Q E h => ?_) (fun cdv A outer s H vs Q E hr h => ?_)
  · obtain ⟨M, ds, d, _, hl, _⟩ := h
    exact hl
  obtain ⟨M, ds, d, hid, hl, hd, hg, q⟩ := h
  obtain ⟨t, ht, hp⟩ := bd cdv A outer s H E hr
  refine ⟨t, ht, ?_⟩
  have dl : ds.length = ps.length := by rw [← dpAll_len hd, hl]
  exact hp ds d dl hg M H H _ (envO_start hid hd) _ q
theorem ok_own {x : Str} {st : Stmt} {N ps : List Str} {k : Nat} {g : List PyData → List PyData → Prop} (D : Df K mg x st ps f fd) (S : FnScope N ps (defScope st))
    (bd : ∀ (cdv : Value) (A : Around) (outer : List Env) (s : Shared) (H : Hp) (E : XK), Room k (A.deeper (envOfC x (defScope st) s.heap.objs.size f cdv)) →
      ∃ t, PSs (cxOf CX0 P w K mg base N x (defScope st) f cdv A outer s H E).nox (defBody st) t ∧ ∀ ds es, ds.length = ps.length → g ds es → PuO K t (startE N ds) (.ro es)) : FnOk P w K mg base CX0 (k + 1) f fd ps (spOwn K ps.length g) := by
  refine D.fn.ok S (fun vs H Q E h => ?_) (fun cdv A outer s H vs Q E hr h => ?_)
  · obtain ⟨M, ds, d, _, hl, _⟩ := h
    exact hl
  obtain ⟨M, ds, es, hid, hl, hd, hg, q⟩ := h
  obtain ⟨t, ht, hp⟩ := bd cdv A outer s H E hr
  refine ⟨t, ht, ?_⟩
  have dl : ds.length = ps.length := by rw [← dpAll_len hd, hl]
  exact hp ds es dl hg M H H _ (envO_start hid hd) _ fun p xs H' e n _ hp ha => q p xs H' e n hp ha
end
end Lm
set_option Elab.async false
set_option linter.all false
set_option maxRecDepth 100000
set_option maxHeartbeats 2000000
namespace Lm
open PySem PySem.Spec PyProof.Rows L2
def top (i : Nat) : Stmt := PySem.Challenge.pw_lemmaless_k07_whole_decided.main.body.getD i (.Pass ⟨0, 0, 0, 0⟩)
abbrev sCLineError : Stmt := top 1
abbrev sCBadClaim : Stmt := top 2
abbrev sIsNum : Stmt := top 8
abbrev sIsFormula : Stmt := top 9
abbrev sIsF : Stmt := top 10
abbrev sIsSign : Stmt := top 11
abbrev sInner : Stmt := top 12
abbrev sWords : Stmt := top 13
abbrev sSpelled : Stmt := top 14
abbrev sIsClaim : Stmt := top 16
abbrev sNoClaim : Stmt := top 17
abbrev sClaimSp : Stmt := top 18
abbrev sSideSp : Stmt := top 19
abbrev sStandsIn : Stmt := top 20
abbrev sAllIn : Stmt := top 21
abbrev sToldOnce : Stmt := top 22
abbrev sEachOnce : Stmt := top 23
abbrev sLedTo : Stmt := top 25
abbrev sPutIn : Stmt := top 26
abbrev sPutL : Stmt := top 27
abbrev sPutR : Stmt := top 28
abbrev sCProof : Stmt := top 30
abbrev sDecided : Stmt := top 31
abbrev sSearched : Stmt := top 32
abbrev sNextRule : Stmt := top 33
abbrev sManyOpen : Stmt := top 34
abbrev sRestedOn : Stmt := top 35
abbrev sWriteLines : Stmt := top 36
abbrev sCell : Stmt := top 38
abbrev sFirst : Stmt := top 39
abbrev sCount : Stmt := top 40
abbrev sSign : Stmt := top 41
abbrev sFormula : Stmt := top 42
abbrev sLWords : Stmt := top 43
abbrev sLDeep : Stmt := top 44
abbrev sWith : Stmt := top 45
abbrev sWithout : Stmt := top 46
abbrev sWithin : Stmt := top 47
abbrev sSplit : Stmt := top 48
abbrev sLWanted : Stmt := top 49
abbrev sRest : Stmt := top 50
abbrev sOne : Stmt := top 51
abbrev sTwo : Stmt := top 52
abbrev sGrown : Stmt := top 53
abbrev sChain : Stmt := top 54
abbrev sWhole : Stmt := top 55
abbrev sLFormulaIs : Stmt := top 56
abbrev sLRowIs : Stmt := top 57
abbrev sLClaimIs : Stmt := top 58
abbrev sLLineIs : Stmt := top 59
abbrev sLFollows : Stmt := top 60
abbrev sWalks : Stmt := top 61
abbrev sLTrue : Stmt := top 62
abbrev sLHolds : Stmt := top 63
abbrev sGood : Stmt := top 64
abbrev sLClaim : Stmt := top 65
abbrev sLaw : Stmt := top 66
end Lm
set_option Elab.async false
set_option linter.all false
set_option maxRecDepth 100000
set_option maxHeartbeats 2000000
namespace Lm
open PySem PySem.Spec PyProof.Rows L2
section
variable {P : Program} {w : World} {K : PySem.W.Frag} {mg : Str → Option Value} {base : Heap} {f : Addr} {fd : FuncData}
/-! ### is_number, _is_sign -/
theorem scIsNum : FnScope ["thing"] ["thing"] (defScope sIsNum) := ⟨rfl, rfl, rfl, by decide +kernel, rfl, by decide +kernel, by decide +kernel⟩
theorem ok_isNum (D : Df K mg "is_number" sIsNum ["thing"] f fd) (B : Blt mg) : FnOk P w K mg base CX0 1 f fd ["thing"] (spIsNum K) := by
  refine D.fn.ok scIsNum (fun vs H Q E h => ?_) (fun cdv A outer s H vs Q E hr h => ?_)
  · obtain ⟨v, d, rfl, _⟩ := h
    rfl
  obtain ⟨v, d, rfl, hd, q⟩ := h
  refine ⟨_, pss_one (ps_ret (pe_and (pe_callB call_isi (by rfl) B.isinstance bt_isinstance (pa_cons (pv 0) (pa_cons (pe_bltn (v := .ty "int") (by rfl) B.int bt_int rfl) pa_nil)))
    (pe_one (pe_not (pe_callB call_isi (by rfl) B.isinstance bt_isinstance (pa_cons (pv 0) (pa_cons (pe_bltn (v := .ty "bool") (by rfl) B.bool bt_bool rfl) pa_nil))))))), ?_⟩
  refine ⟨v, rfl, v, .ty "int", _, _, _, rfl, .ty "int", tyx_of hd, kit_int hd, isIB d, rfl, ?_⟩
  refine ite2 (fun c => ?_) (fun c => ?_)
  · refine ⟨v, rfl, v, .ty "bool", _, _, _, rfl, .ty "bool", tyx_of hd, kit_bool hd, isBl d, rfl, ?_⟩
    have e : (!isBl d) = isNum d := by cases d <;> first | rfl | exact (Bool.false_ne_true c).elim
    rw [e]
    exact q
  · have e : isNum d = false := by cases d <;> first | rfl | exact absurd rfl c
    rw [e] at q
    exact q
theorem scIsSign : FnScope ["thing"] ["thing"] (defScope sIsSign) := ⟨rfl, rfl, rfl, by decide +kernel, rfl, by decide +kernel, by decide +kernel⟩
theorem ok_isSign {t : Tok} (D : Df K mg "_is_sign" sIsSign ["thing"] f fd) (N : Has P w K mg base 1 "is_number" ["thing"] (spIsNum K)) (ms : mg "MOST_SIGN" = some (.int 99 t)) : FnOk P w K mg base CX0 2 f fd ["thing"] (spIsSign K) := by
  refine D.fn.ok scIsSign (fun vs H Q E h => ?_) (fun cdv A outer s H vs Q E hr h => ?_)
  · obtain ⟨v, d, rfl, _⟩ := h
    rfl
  obtain ⟨v, d, rfl, hd, q⟩ := h
  refine ⟨_, pss_one (ps_ret (pe_and (pe_callH N hr (by rfl) (pa_cons (pv 0) pa_nil)) (pe_one (pe_chain op_le op_le pe_int (pv 0) (pe_glob (v := .int 99) (by rfl) ms ⟨_, rfl⟩))))), ?_⟩
  refine ⟨v, rfl, v, d, rfl, hd, isNum d, rfl, ?_⟩
  refine ite2 (fun c => ?_) (fun c => ?_)
  · cases hd with
    | int i =>
      refine ⟨.int i, rfl, 0, i, rfl, rfl, _, rfl, ?_⟩
      refine ite2 (fun c1 => ?_) (fun c1 => ?_)
      · refine ⟨i, 99, rfl, rfl, ?_⟩
        have e : isSg (.int i) = decide (i ≤ 99) := by
          show (decide (0 ≤ i) && decide (i ≤ 99)) = _
          rw [c1, Bool.true_and]
        rw [e] at q
        exact q
      · have e : isSg (.int i) = false := by
          show (decide (0 ≤ i) && decide (i ≤ 99)) = _
          rw [Bool.eq_false_iff.mpr c1, Bool.false_and]
        rw [e] at q
        exact q
    | _ => exact (Bool.false_ne_true c).elim
  · have e : isSg d = false := by cases d <;> first | rfl | exact absurd rfl c
    rw [e] at q
    exact q
end
end Lm
set_option Elab.async false
set_option linter.all false
set_option maxRecDepth 100000
set_option maxHeartbeats 2000000
namespace Lm
open PySem PySem.Spec PyProof.Rows L2
theorem at0 (x : V) (xs : List V) : atI (x :: xs) 0 = some x := atI_nat (j := 0) rfl
theorem at1 (x y : V) (xs : List V) : atI (x :: y :: xs) 1 = some y := atI_nat (j := 1) rfl
section
variable {P : Program} {w : World} {K : PySem.W.Frag} {mg : Str → Option Value} {base : Heap} {f : Addr} {fd : FuncData}
/-! ### _is_formula_of -/
theorem scIsF : FnScope ["thing", "deep", "word", "inner"] ["thing", "deep"] (defScope sIsF) := ⟨rfl, rfl, rfl, by decide +kernel, rfl, by decide +kernel, by decide +kernel⟩
theorem ok_isF {n : Nat} {dd : Addr} {es : Array DictEntry} {m : Nat} (D : Df K mg "_is_formula_of" sIsF ["thing", "deep"] f fd) (B : Blt mg) (G : Has P w K mg base (n + 2) "_is_formula_of" ["thing", "deep"] (spIsF K n))
    (S : Has P w K mg base 2 "_is_sign" ["thing"] (spIsSign K)) (M : ManyD K w dd es m) (mM : mg "MANY_INNER" = some (.ref dd)) : FnOk P w K mg base CX0 (n + 3) f fd ["thing", "deep"] (spIsF K (n + 1)) := by
  refine D.fn.ok scIsF (fun vs H Q E h => ?_) (fun cdv A outer s H vs Q E hr h => ?_)
  · obtain ⟨v, d, k, rfl, _⟩ := h
    rfl
  obtain ⟨v, d, k, rfl, hd, h0, hk, q0⟩ := h
  have q : ∀ (b : Bool) (H' : Hp), Same H H' → isF k.toNat d = b → Q (.bl b) H' := fun b H' e h => h ▸ q0 H' e
  have hr2 : Room 2 (A.deeper (envOfC "_is_formula_of" (defScope sIsF) s.heap.objs.size f cdv)) := hr.mono (by omega)
  refine ⟨_, pss_cons (ps_if (PW.pt (pw_or (pt_cmpR op_eq (pv 1) pe_int (nomark _)) (pw_or (pt_not (pt_val (pe_callB call_isi (by rfl) B.isinstance bt_isinstance (pa_cons (pv 0) (pa_cons (pe_bltn (v := .ty "tuple") (by rfl) B.tuple bt_tuple rfl) pa_nil)))))
      (pw_or1 (pt_cmpR op_eq (pe_callB call_len_seq (by rfl) B.len PySem.boot_len (pa_cons (pv 0) pa_nil)) pe_int (nomark _)))))) (pss_one (ps_ret pe_bl)) pss_nil)
    (pss_cons (ps_set (i := 2) scIsF.nd rfl (.inl rfl) (pe_ix ix_tup (pv 0) pe_int (fun _ _ => rfl)))
    (pss_cons (ps_if (pt_not (pt_val (pe_callB call_isi (by rfl) B.isinstance bt_isinstance (pa_cons (pv 2) (pa_cons (pe_bltn (v := .ty "str") (by rfl) B.str bt_str rfl) pa_nil))))) (pss_one (ps_ret pe_bl)) pss_nil)
    (pss_cons (ps_if (pt_cmpR op_eq (pv 2) pe_str (nomark _)) (pss_one (ps_ret (pe_and (pe_cmpR op_eq (pe_callB call_len_seq (by rfl) B.len PySem.boot_len (pa_cons (pv 0) pa_nil)) pe_int (nomark _))
      (pe_one (pe_callH S hr2 (by rfl) (pa_cons (pe_ix ix_tup (pv 0) pe_int (fun _ _ => rfl)) pa_nil)))))) pss_nil)
    (pss_cons (ps_if (PW.pt (pw_or (pt_cmpR (op_notIn_kd M.kd) (pv 2) (pe_glob (v := .ref dd) (by rfl) mM rfl) (by rfl))
      (pw_or1 (pt_cmpR op_ne (pe_callB call_len_seq (by rfl) B.len PySem.boot_len (pa_cons (pv 0) pa_nil)) (pe_op op_add pe_int (pe_ix ix_kdict (pe_glob (v := .ref dd) (by rfl) mM rfl) (pv 2) (fun _ _ => rfl))) (nomark _))))) (pss_one (ps_ret pe_bl)) pss_nil)
    (pss_one (ps_ret (pe_callB (cr_all rfl) (by rfl) B.all bt_all (pa_cons (pe_lc (own := [("inner", 3)]) (g := gName 3) (tt := tYes) rfl scIsF.nd (pi_tup (pe_slice sl_tup (pv 0) (po_some pe_int) po_none))
      (blkOk_by (N := ["thing", "deep", "word", "inner"]) (sc := defScope sIsF) (by decide +kernel)) (fun _ _ _ _ _ => pg_name (i := 3) scIsF.nd rfl (Or.inl rfl)) (fun _ _ _ _ _ => pts_nil)
      (fun _ _ _ _ _ => pe_callH G hr (by rfl) (pa_cons (pv 3) (pa_cons (pe_op op_sub (pv 1) pe_int) pa_nil)))) pa_nil)))))))), ?_⟩
  -- deep == 0
  refine ⟨.int k, rfl, rfl, _, rfl, ?_⟩
  refine ite2 (fun c => ?_) (fun c => ?_)
  · have e : k = 0 := V.int.inj (of_decide_eq_true c)
    refine q false H (Same.refl H) ?_
    rw [e]
    exact isF_zero d
  have hk0 : 0 < k := by
    rcases Int.lt_or_eq_of_le h0 with z | z
    · exact z
    · exact absurd (decide_eq_true (congrArg V.int z.symm)) c
  obtain ⟨j, hj⟩ : ∃ j : Nat, k.toNat = j + 1 := ⟨k.toNat - 1, by omega⟩
  -- a tuple
  refine ⟨v, rfl, v, .ty "tuple", _, _, _, rfl, .ty "tuple", tyx_of hd, kit_tuple hd, isTu d, rfl, ?_⟩
  refine ite2 (fun c1 => ?_) (fun c1 => ?_)
  · refine q false H (Same.refl H) ?_
    rw [hj]
    cases d <;> first | rfl | exact (Bool.false_ne_true c1).elim
  cases hd with
  | tup hs ha =>
    rename_i a xs ds
    have hlen := dpAll_len ha
    -- len(thing) == 0
    refine ⟨.ref a, rfl, a, xs, rfl, .inr hs, rfl, _, rfl, ?_⟩
    refine ite2 (fun c2 => ?_) (fun c2 => ?_)
    · refine q false H (Same.refl H) ?_
      have e : ((xs.length : Nat) : Int) = 0 := V.int.inj (of_decide_eq_true c2)
      have e2 : ds.length = 0 := by omega
      rw [hj, List.eq_nil_of_length_eq_zero e2]
      rfl
    cases ha with
    | nil => exact absurd (decide_eq_true rfl) c2
    | @cons wv ws d0 ds h1 h2 =>
      -- word = thing[0]
      refine ⟨.ref a, rfl, a, _, 0, wv, rfl, rfl, hs, at0 _ _, ?_⟩
      -- isinstance(word, str)
      refine ⟨wv, rfl, wv, .ty "str", _, _, _, rfl, .ty "str", tyx_of h1, kit_str h1, isSt d0, rfl, ?_⟩
      refine ite2 (fun c3 => ?_) (fun c3 => ?_)
      · refine q false H (Same.refl H) ?_
        rw [hj]
        cases d0 <;> first | rfl | exact (Bool.false_ne_true c3).elim
      cases h1 with
      | str x =>
        -- word == 'sign'
        refine ⟨.str x, rfl, rfl, _, rfl, ?_⟩
        refine ite2 (fun c4 => ?_) (fun c4 => ?_)
        · have ex : x = ("sign" : Str) := V.str.inj (of_decide_eq_true c4)
          have isf : isF k.toNat (.tuple (.str x :: ds)) = sgOf ds := by rw [hj, isF, if_pos ex]
          refine ⟨.ref a, rfl, a, _, rfl, .inr hs, rfl, _, rfl, ?_⟩
          refine ite2 (fun c5 => ?_) (fun c5 => ?_)
          · have e : (((V.str x :: ws).length : Nat) : Int) = 2 := V.int.inj (of_decide_eq_true c5)
            cases h2 with
            | nil => exact absurd e (by show ¬ ((1 : Nat) : Int) = 2; decide)
            | @cons y ws d1 ds k1 k2 =>
              cases k2 with
              | cons _ _ =>
                rw [List.length_cons, List.length_cons, List.length_cons] at e
                omega
              | nil =>
                refine ⟨.ref a, rfl, a, _, 1, y, rfl, rfl, hs, at1 _ _ _, y, d1, rfl, k1, ?_⟩
                exact q (isSg d1) H (Same.refl H) isf
          · refine q false H (Same.refl H) ?_
            rw [isf]
            cases h2 with
            | nil => rfl
            | @cons y ws d1 ds k1 k2 =>
              cases k2 with
              | cons _ _ => rfl
              | nil => exact absurd (decide_eq_true rfl) c5
        have ex : ¬ x = ("sign" : Str) := fun z => c4 (decide_eq_true (congrArg V.str z))
        have isf : isF k.toNat (.tuple (.str x :: ds)) = (match arOf x with | none => false | some k => decide (((ds.length + 1 : Nat) : Int) = 1 + k) && (ds.map (isF j)).all id) := by
          rw [hj, isF, if_neg ex]
          all_goals rfl
        -- word not in MANY_INNER
        obtain ⟨r, hr1, hr3⟩ := M.is x
        refine ⟨.str x, rfl, x, r, rfl, rfl, hr1, _, rfl, ?_⟩
        refine ite2 (fun c6 => ?_) (fun c6 => ?_)
        · refine q false H (Same.refl H) ?_
          rw [isf]
          cases e : arOf x with
          | none => rfl
          | some z =>
            rw [hr3, e] at c6
            exact (Bool.false_ne_true c6).elim
        cases e : arOf x with
        | none =>
          rw [hr3, e] at c6
          exact absurd rfl c6
        | some z =>
          obtain ⟨t, ht⟩ := M.get e
          refine ⟨.ref a, rfl, a, _, rfl, .inr hs, .str x, rfl, dd, x, .int z, rfl, rfl, ⟨es, m, .int z t, M.kd.at_, M.kd.lit, ht, ⟨t, rfl⟩⟩, 1, z, rfl, rfl, rfl, _, rfl, ?_⟩
          have hl2 : ws.length = ds.length := dpAll_len h2
          refine ite2 (fun c7 => ?_) (fun c7 => ?_)
          · refine q false H (Same.refl H) ?_
            have ne : ¬ ((ds.length + 1 : Nat) : Int) = 1 + z := fun zz => by
              have zz2 : (((V.str x :: ws).length : Nat) : Int) = 1 + z := by rw [List.length_cons, hl2]; exact zz
              rw [decide_eq_true (congrArg V.int zz2)] at c7
              exact Bool.false_ne_true c7
            rw [isf, e]
            show (decide (((ds.length + 1 : Nat) : Int) = 1 + z) && _) = false
            rw [decide_eq_false ne, Bool.false_and]
          · have eq2 : ((ds.length + 1 : Nat) : Int) = 1 + z := by
              by_cases zz : (((V.str x :: ws).length : Nat) : Int) = 1 + z
              · rw [List.length_cons, hl2] at zz
                exact zz
              · rw [decide_eq_false (fun y => zz (V.int.inj y))] at c7
                exact absurd rfl c7
            -- all([..])
            refine ⟨.ref a, rfl, 1, rfl, a, _, rfl, hs, cutNot _ _, fun p np => ⟨p, rfl, ⟨_, SqT.of upd_same⟩, fun L nL => ?_⟩⟩
            have hp : SqT K (upd H p (.tup (cutV (V.str x :: ws) (some 1) none))) p ws := SqT.of (by rw [upd_same, cut1a])
            have s1 : Same H (upd H p (.tup (cutV (V.str x :: ws) (some 1) none))) := same_new np _
            have lz : ws.length ≤ sizeLine := by
              have z1 : z ≤ 2 := by
                unfold arOf at e
                split at e
                · cases e; decide
                · split at e
                  · cases e; decide
                  · split at e
                    · cases e; decide
                    · split at e
                      · cases e; decide
                      · cases e
              refine sl1000 ?_
              omega
            refine lc_map_tup (K := K) (a := p) (xs := ws) (ys := ((ds.map (isF j)).map V.bl)) (j := 3) hp nL (by rw [List.length_map, List.length_map, hl2]) (by rw [List.length_map, List.length_map, ← hl2]; exact lz) (fun i y b H' hi hb e1 Q' q' => ?_) (fun H' e1 hL => ?_)
            · obtain ⟨di, hdi, hy⟩ := dpAll_get h2 hi
              have eb : b = .bl (isF j di) := by
                rw [List.getElem?_map, List.getElem?_map, hdi] at hb
                exact (Option.some.inj hb).symm
              refine ⟨y, rfl, .int k, rfl, k, 1, rfl, rfl, y, di, k - 1, rfl, dp_same (s1.trans e1) _ _ hy, by omega, by omega, fun H'' e2 => ?_⟩
              have ej : (k - 1).toNat = j := by omega
              rw [ej]
              rw [eb] at q'
              exact q' H'' e2
            · refine ⟨L, ds.map (isF j), rfl, SqL.of hL, ?_⟩
              refine q _ H' (s1.trans e1) ?_
              rw [isf, e]
              show (decide (((ds.length + 1 : Nat) : Int) = 1 + z) && _) = _
              rw [decide_eq_true eq2, Bool.true_and]
      | _ => exact absurd rfl c3
  | _ => exact absurd rfl c1
end
end Lm
set_option Elab.async false
set_option linter.all false
set_option maxRecDepth 100000
set_option maxHeartbeats 2000000
namespace Lm
open PySem PySem.Spec PyProof.Rows L2
theorem kid_get {K : PySem.W.Frag} {H : Hp} {ys : List V} {fs : List Fm} (h : DpAll K H ys (fs.map Fm.toD)) {i : Nat} {y : V} (e : ys[i]? = some y) : ∃ g, fs[i]? = some g ∧ Dp K H y g.toD := by
  obtain ⟨d, hd, hy⟩ := dpAll_get h e
  rw [List.getElem?_map] at hd
  cases q : fs[i]? with
  | none => rw [q] at hd; cases hd
  | some g =>
    rw [q] at hd
    exact ⟨g, rfl, (Option.some.inj hd) ▸ hy⟩
theorem kid_dep : ∀ {f g : Fm}, g ∈ f.kids → g.dep < f.dep
  | .sg _, g, h => nomatch h
  | .no f, g, h => by
    rw [List.mem_singleton.mp h]
    exact Nat.lt_succ_self _
  | .bi w f k, g, h => by
    show g.dep < max f.dep k.dep + 1
    rcases List.mem_cons.mp h with e | h
    · rw [e]; omega
    · rw [List.mem_singleton.mp h]; omega
theorem kid_good : ∀ {f g : Fm}, f.good → g ∈ f.kids → g.good
  | .sg _, g, _, h => nomatch h
  | .no f, g, hf, h => by
    rw [List.mem_singleton.mp h]
    exact hf
  | .bi w f k, g, hf, h => by
    rcases List.mem_cons.mp h with e | h
    · rw [e]; exact hf.1
    · rw [List.mem_singleton.mp h]; exact hf.2
theorem kids_len : ∀ f : Fm, f.kids.length ≤ 2
  | .sg _ => Nat.zero_le _
  | .no _ => (by decide : 1 ≤ 2)
  | .bi _ _ _ => Nat.le_refl 2
theorem log_small {i : Int} (h : 0 ≤ i ∧ i ≤ 99) : i.natAbs.log2 < 1920 := by
  have q : ∀ m : Fin 100, m.val.log2 < 1920 := by decide +kernel
  exact q ⟨i.natAbs, by omega⟩
theorem str_len (x y : Str) : (x ++ y).length = x.length + y.length := by
  rw [TL.len_tl, TL.tl_append, List.length_append, ← TL.len_tl, ← TL.len_tl]
section
variable {P : Program} {w : World} {K : PySem.W.Frag} {mg : Str → Option Value} {base : Heap} {f : Addr} {fd : FuncData}
theorem all_isF {dd : Addr} {es : Array DictEntry} {m : Nat} (D : Df K mg "_is_formula_of" sIsF ["thing", "deep"] f fd) (B : Blt mg)
    (S : Has P w K mg base 2 "_is_sign" ["thing"] (spIsSign K)) (M : ManyD K w dd es m) (mM : mg "MANY_INNER" = some (.ref dd)) : ∀ n : Nat, Has P w K mg base (n + 2) "_is_formula_of" ["thing", "deep"] (spIsF K n)
  | 0 => by
    have no : ∀ vs H Q E, ¬ spIsF K 0 vs H Q E := fun vs H Q E h => by
      obtain ⟨v, d, k, _, _, h1, h2, _⟩ := h
      omega
    exact D.has ⟨fun vs H Q E h => absurd h (no vs H Q E), fun A outer s H args us vs Q E _ _ _ _ h => absurd h (no vs H Q E)⟩
  | n + 1 => D.has (ok_isF D B (all_isF D B S M mM n) S M mM)
theorem scIsFormula : FnScope ["thing"] ["thing"] (defScope sIsFormula) := ⟨rfl, rfl, rfl, by decide +kernel, rfl, by decide +kernel, by decide +kernel⟩
theorem ok_isFormula {t : Tok} (D : Df K mg "is_formula" sIsFormula ["thing"] f fd) (G : Has P w K mg base 15 "_is_formula_of" ["thing", "deep"] (spIsF K 13)) (md : mg "MOST_DEEP" = some (.int 12 t)) : FnOk P w K mg base CX0 16 f fd ["thing"] (spIsFormula K) := by
  refine D.fn.ok scIsFormula (fun vs H Q E h => ?_) (fun cdv A outer s H vs Q E hr h => ?_)
  · obtain ⟨v, d, rfl, _⟩ := h
    rfl
  obtain ⟨v, d, rfl, hd, q⟩ := h
  refine ⟨_, pss_one (ps_ret (pe_callH G hr (by rfl) (pa_cons (pv 0) (pa_cons (pe_glob (v := .int 12) (by rfl) md ⟨_, rfl⟩) pa_nil)))), ?_⟩
  exact ⟨v, rfl, v, d, 12, rfl, hd, by decide, by decide, fun H' e => q H' e⟩
/-! ### inner_formulas -/
theorem scInner : FnScope ["f"] ["f"] (defScope sInner) := ⟨rfl, rfl, rfl, by decide +kernel, rfl, by decide +kernel, by decide +kernel⟩
theorem ok_inner (D : Df K mg "inner_formulas" sInner ["f"] f fd) : FnOk P w K mg base CX0 1 f fd ["f"] (spInner K) := by
  refine D.fn.ok scInner (fun vs H Q E h => ?_) (fun cdv A outer s H vs Q E hr h => ?_)
  · obtain ⟨v, g, rfl, _⟩ := h
    rfl
  obtain ⟨v, g, rfl, hd, q⟩ := h
  refine ⟨_, pss_cons (ps_if (pt_cmpR op_eq (pe_ix ix_tup (pv 0) pe_int (fun _ _ => rfl)) pe_str (nomark _)) (pss_one (ps_ret (pe_tup pa_nil))) pss_nil)
    (pss_one (ps_ret (pe_slice sl_tup (pv 0) (po_some pe_int) po_none))), ?_⟩
  obtain ⟨a, x, xs, rfl, hs, hm⟩ := dp_kids hd
  cases g with
  | sg i =>
    obtain ⟨rfl, rfl⟩ := hm
    refine ⟨.ref a, rfl, a, _, 0, _, rfl, rfl, hs, at0 _ _, rfl, _, rfl, ?_⟩
    refine ite2 (fun c => ?_) (fun c => absurd (decide_eq_true rfl) c)
    refine ⟨Nat.zero_le _, fun p np => ?_⟩
    exact q p _ [] (same_new np _) (SqT.of upd_same) .nil
  | no g =>
    obtain ⟨rfl, hx⟩ := hm
    refine ⟨.ref a, rfl, a, _, 0, _, rfl, rfl, hs, at0 _ _, rfl, _, rfl, ?_⟩
    refine ite2 (fun c => ?_) (fun c => ?_)
    · exact absurd (V.str.inj (of_decide_eq_true c)) (by decide +kernel)
    refine ⟨.ref a, rfl, 1, rfl, a, _, rfl, hs, cutNot _ _, fun p np => ?_⟩
    exact q p _ xs (same_new np _) (SqT.of (by rw [upd_same, cut1a])) (dpAll_same (same_new np _) _ _ hx)
  | bi b g k =>
    obtain ⟨rfl, hx⟩ := hm
    refine ⟨.ref a, rfl, a, _, 0, _, rfl, rfl, hs, at0 _ _, rfl, _, rfl, ?_⟩
    refine ite2 (fun c => ?_) (fun c => ?_)
    · exact absurd (V.str.inj (of_decide_eq_true c)) (txt_sign b)
    refine ⟨.ref a, rfl, 1, rfl, a, _, rfl, hs, cutNot _ _, fun p np => ?_⟩
    exact q p _ xs (same_new np _) (SqT.of (by rw [upd_same, cut1a])) (dpAll_same (same_new np _) _ _ hx)
/-! ### spelled -/
theorem scSpelled : FnScope ["f", "inside", "inner"] ["f"] (defScope sSpelled) := ⟨rfl, rfl, rfl, by decide +kernel, rfl, by decide +kernel, by decide +kernel⟩
theorem len_le {x : Str} {n : Nat} (h : x.length ≤ n) (hn : n ≤ 100000) : x.length ≤ sizeLine := sl1000 (Nat.le_trans h hn)
theorem len_of (x : Str) : x.length = (TL.tl x).length := TL.len_tl x
theorem cs_not : ("not" : Str).length = 3 := by decide +kernel
theorem cs_open : ("(" : Str).length = 1 := by decide +kernel
theorem cs_close : (")" : Str).length = 1 := by decide +kernel
theorem cs_comma : ("," : Str).length = 1 := by decide +kernel
theorem cs_empty : (Str.empty).length = 0 := rfl
theorem cs_txt (b : Bw) : b.txt.length ≤ 4 := by cases b <;> decide +kernel
theorem join1 (x : Str) : Txt.join ("," : Str) [x] = x := by rw [TL.join_eq]; rfl
theorem join2 (x y : Str) : Txt.join ("," : Str) [x, y] = (x ++ ("," : Str)) ++ y := by rw [TL.join_eq]; rfl
theorem ok_spelled {n : Nat} (D : Df K mg "spelled" sSpelled ["f"] f fd) (B : Blt mg) (I : Has P w K mg base 1 "inner_formulas" ["f"] (spInner K)) (G : Has P w K mg base (n + 1) "spelled" ["f"] (spSpelled K n)) :
    FnOk P w K mg base CX0 (n + 2) f fd ["f"] (spSpelled K (n + 1)) := by
  refine D.fn.ok scSpelled (fun vs H Q E h => ?_) (fun cdv A outer s H vs Q E hr h => ?_)
  · obtain ⟨v, g, rfl, _⟩ := h
    rfl
  obtain ⟨v, g, rfl, hd, hg, h12, hn, q⟩ := h
  have hr1 : Room 1 (A.deeper (envOfC "spelled" (defScope sSpelled) s.heap.objs.size f cdv)) := hr.mono (by omega)
  refine ⟨_, pss_cons (ps_if (pt_cmpR op_eq (pe_ix ix_tup (pv 0) pe_int (fun _ _ => rfl)) pe_str (nomark _)) (pss_one (ps_ret (pe_callTy call_str_int (by rfl) B.str bt_str (pa_cons (pe_ix ix_tup (pv 0) pe_int (fun _ _ => rfl)) pa_nil)))) pss_nil)
    (pss_cons (ps_set (i := 1) scSpelled.nd rfl (.inl rfl) (pe_join pe_str (pe_lc (own := [("inner", 2)]) (g := gName 2) (tt := tYes) rfl scSpelled.nd (pi_tup (pe_callH I hr1 (by rfl) (pa_cons (pv 0) pa_nil)))
      (blkOk_by (N := ["f", "inside", "inner"]) (sc := defScope sSpelled) (by decide +kernel)) (fun _ _ _ _ _ => pg_name (i := 2) scSpelled.nd rfl (Or.inl rfl)) (fun _ _ _ _ _ => pts_nil)
      (fun _ _ _ _ _ => pe_callH G hr (by rfl) (pa_cons (pv 2) pa_nil)))))
    (pss_one (ps_ret (pe_joined (.cons (pe_fmt (pe_ix ix_tup (pv 0) pe_int (fun _ _ => rfl))) (.cons pe_str (.cons (pe_fmt (pv 1)) (.cons pe_str .nil)))))))), ?_⟩
  obtain ⟨a, x, xs, rfl, hs, hm⟩ := dp_kids hd
  have whole : (spS g).length ≤ 18500 := spS_len hg h12
  -- the way behind the test, for a formula that is no sign
  have go : ∀ (z : Str) (ys : List Str), z.length ≤ 4 → ys = g.kids.map spS → (((((Str.empty ++ z) ++ ("(" : Str)) ++ Txt.join ("," : Str) ys) ++ (")" : Str))) = spS g → (Txt.join ("," : Str) ys).length ≤ 18500 → SqT K H a (.str z :: xs) →
      (tSeq (tAsg (tM1 (fun x xs H Q => ∃ a p, ∃ ys : List Str, x = .str a ∧ xs = [.ref p] ∧ (SqL K H p (ys.map V.str) ∨ SqT K H p (ys.map V.str)) ∧ (ys.map (·.length)).sum + ys.length * a.length ≤ 16777216 ∧ Q (.str (Txt.join a ys)) H) (tC (.str ("," : Str)))
          (tLc (iTup K (tCall (spInner K) [] E0 (tCons (tVar 0) tNil))) (gName 2) tYes (tCall (spSpelled K n) [] E0 (tCons (tVar 2) tNil)) [2])) (gName 1))
        (tRet (fun σ H Q => tJs [tFmt (tOp (rIxT K) (tVar 0) (tC (.int 0))), tC (.str ("(" : Str)), tFmt (tVar 1), tC (.str (")" : Str))] Str.empty σ H fun out H1 => Q (.str out) H1)))
        { nx := fun _ H' => Q .non H', rt := Q } (L2.start ["f", "inside", "inner"] [.ref a]) H := by
    intro z ys hz hys hj hl hs
    refine ⟨⟨_, rfl⟩, .ref a, rfl, .ref a, g, rfl, hd, fun r H1 ks e1 hk hks => ⟨r, rfl, ⟨ks, hk⟩, fun L nL => ?_⟩⟩
    have hkl : ks.length = g.kids.length := by rw [dpAll_len hks, List.length_map]
    refine lc_map_tup (K := K) (a := r) (xs := ks) (ys := ys.map V.str) (j := 2) hk nL (by rw [List.length_map, hys, List.length_map, hkl]) (by rw [List.length_map, hys, List.length_map]; exact sl1000 (Nat.le_trans (kids_len g) (by decide))) (fun i y b H' hi hb e2 Q' q' => ?_) (fun H' e2 hL => ?_)
    · obtain ⟨k, hk1, hy⟩ := kid_get hks hi
      have mem : k ∈ g.kids := List.mem_of_getElem? hk1
      have eb : b = .str (spS k) := by
        rw [hys, List.getElem?_map, List.getElem?_map, hk1] at hb
        exact (Option.some.inj hb).symm
      have dl := kid_dep mem
      refine ⟨y, rfl, y, k, rfl, dp_same e2 _ _ hy, kid_good hg mem, by omega, by omega, fun H'' e3 => ?_⟩
      rw [← eb]
      exact q' H'' e3
    · have hs2 : SqT K H' a (.str z :: xs) := sqT_same (e1.trans e2) hs
      have sum : (ys.map (·.length)).sum + ys.length * ("," : Str).length ≤ 16777216 := by
        rw [hys]
        cases g with
        | sg _ =>
          show 0 + 0 * ("," : Str).length ≤ 16777216
          rw [Nat.zero_mul]
          decide
        | no k =>
          have w1 : (spS k).length ≤ 18500 := spS_len (f := k) hg (by have : k.dep + 1 ≤ 12 := h12; omega)
          show ((spS k).length + 0) + 1 * ("," : Str).length ≤ 16777216
          rw [cs_comma]
          omega
        | bi b k l =>
          have h12' : max k.dep l.dep + 1 ≤ 12 := h12
          have w1 : (spS k).length ≤ 18500 := spS_len (f := k) hg.1 (by omega)
          have w2 : (spS l).length ≤ 18500 := spS_len (f := l) hg.2 (by omega)
          show ((spS k).length + ((spS l).length + 0)) + 2 * ("," : Str).length ≤ 16777216
          rw [cs_comma]
          omega
      refine ⟨("," : Str), L, ys, rfl, rfl, .inl (SqL.of hL), sum, ?_⟩
      have l1 : (Str.empty ++ z).length ≤ 4 := by rw [str_len, cs_empty]; omega
      have l2 : ((Str.empty ++ z) ++ ("(" : Str)).length ≤ 5 := by rw [str_len, cs_open]; omega
      have l3 : (((Str.empty ++ z) ++ ("(" : Str)) ++ Txt.join ("," : Str) ys).length ≤ 18505 := by rw [str_len]; omega
      refine ⟨.ref a, rfl, a, _, 0, _, rfl, rfl, hs2, at0 _ _, .inl ⟨z, rfl, len_le hz (by decide), z, rfl, len_le l1 (by decide), _, rfl, len_le l2 (by decide), .str _, rfl, .inl ⟨_, rfl, len_le hl (by decide), _, rfl, len_le l3 (by decide), _, rfl, ?_, ?_⟩⟩⟩
      · rw [hj]
        exact len_le whole (by decide)
      · show Q (.str _) H'
        rw [hj]
        exact q H' (e1.trans e2)
  cases g with
  | sg i =>
    obtain ⟨rfl, rfl⟩ := hm
    refine ⟨.ref a, rfl, a, _, 0, _, rfl, rfl, hs, at0 _ _, rfl, _, rfl, ?_⟩
    refine ite2 (fun c => ?_) (fun c => absurd (decide_eq_true rfl) c)
    exact ⟨.ref a, rfl, a, _, 1, _, rfl, rfl, hs, at1 _ _ _, i, rfl, log_small hg, q H (Same.refl H)⟩
  | no k =>
    obtain ⟨rfl, hx⟩ := hm
    refine ⟨.ref a, rfl, a, _, 0, _, rfl, rfl, hs, at0 _ _, rfl, _, rfl, ?_⟩
    refine ite2 (fun c => ?_) (fun c => ?_)
    · exact absurd (V.str.inj (of_decide_eq_true c)) (by decide +kernel)
    exact go ("not" : Str) [spS k] (by decide +kernel) rfl rfl (by rw [join1]; exact spS_len (f := k) hg (by have : k.dep + 1 ≤ 12 := h12; omega)) hs
  | bi b k l =>
    obtain ⟨rfl, hx⟩ := hm
    refine ⟨.ref a, rfl, a, _, 0, _, rfl, rfl, hs, at0 _ _, rfl, _, rfl, ?_⟩
    refine ite2 (fun c => ?_) (fun c => ?_)
    · exact absurd (V.str.inj (of_decide_eq_true c)) (txt_sign b)
    refine go b.txt [spS k, spS l] (cs_txt b) rfl rfl ?_ hs
    have e : (spS (.bi b k l)).length = 0 + b.txt.length + 1 + (Txt.join ("," : Str) [spS k, spS l]).length + 1 := by
      show (((((Str.empty ++ b.txt) ++ ("(" : Str)) ++ Txt.join ("," : Str) [spS k, spS l]) ++ (")" : Str))).length = _
      rw [str_len, str_len, str_len, str_len, cs_empty, cs_open, cs_close]
    omega
theorem all_spelled (D : Df K mg "spelled" sSpelled ["f"] f fd) (B : Blt mg) (I : Has P w K mg base 1 "inner_formulas" ["f"] (spInner K)) : ∀ n : Nat, Has P w K mg base (n + 1) "spelled" ["f"] (spSpelled K n)
  | 0 => by
    have no : ∀ vs H Q E, ¬ spSpelled K 0 vs H Q E := fun vs H Q E h => by
      obtain ⟨v, g, _, _, _, _, h2, _⟩ := h
      omega
    exact D.has ⟨fun vs H Q E h => absurd h (no vs H Q E), fun A outer s H args us vs Q E _ _ _ _ h => absurd h (no vs H Q E)⟩
  | n + 1 => D.has (ok_spelled D B I (all_spelled D B I n))
end
end Lm
set_option Elab.async false
set_option linter.all false
set_option maxRecDepth 100000
set_option maxHeartbeats 400000
namespace Lm
open PySem PySem.Spec PyProof.Rows L2
section
variable {P : Program} {w : World} {K : PySem.W.Frag} {mg : Str → Option Value} {base : Heap} {f : Addr} {fd : FuncData}
/-! ### truth -/
end
end Lm
set_option Elab.async false
set_option linter.all false
set_option maxRecDepth 100000
set_option maxHeartbeats 2000000
/-! any(list) within an except suite; a lambda called in a try whose error's context is known -/
namespace Lm
open PySem PySem.Spec PyProof.Rows L2
section
variable {prog : Program} {w : World} {A : Around} {E : Value → Shared → Prop} {s : Shared}
/-- a list's iterator comes to its end while an exception is handled -/
theorem list_over_hot {it l xh : Addr} {i : Nat} {ws : Array Value} {Q : Option Value → Shared → Prop} (hot : HotX.HotAt A xh s.heap) (st : s.heap.IsListIter it l i) (sl : s.heap.IsList l ws) (gone : ws[i]? = none) (ne : xh ≠ it)
    (q : ∀ h', Heap.ExtBut it s.heap h' → Q none { s with heap := h' }) : wpAny (model prog w) A (pyNext (.ref it)) Q E s := by
  obtain ⟨oi, gi, ci, di⟩ := id st
  obtain ⟨ol, gl, _, nl, dl⟩ := sl
  obtain ⟨hh, ox, fx, gx, dx, cx⟩ := hot
  have look : ((it : Addr) ≠ xh) := fun z => ne z.symm
  unfold pyNext
  apply wpAny_bind
  apply wpAny_attempt
  refine wpAny_callSpecial?_slot (name := Str.ofString "__next__") st.typeIs slot_listiter_next ?_
  refine wpAny_call_entry slot_listiter_next st.typeIs entry_listiter_next ?_ (args_listiter_next _)
  show wpAny _ _ (field (.ref it) 0 >>= _) _ _ s
  apply wpAny_bind
  refine wpAny_field gi di (x := .ref l) rfl ?_
  show wpAny _ _ (if (Value.ref l == Value.none) = true then _ else _) _ _ s
  rw [if_neg (fun z : (Value.ref l == Value.none) = true => Bool.false_ne_true z)]
  show wpAny _ _ (field (.ref it) 1 >>= _) _ _ s
  apply wpAny_bind
  refine wpAny_field gi di (x := .int i 0) rfl ?_
  show wpAny _ _ (seqItems? (.ref l) >>= _) _ _ s
  apply wpAny_bind
  refine wpAny_seqItems gl dl ?_
  simp only [Int.toNat_natCast, gone]
  apply wpAny_bind
  apply wpAny_rule
  apply wpAny_bind
  refine wpAny_setField gi di (by simp) ?_
  show wpAny _ _ (newExc (.type "StopIteration") [] >>= _) _ _ _
  apply wpAny_bind
  simp only [newExc, newTuple]
  apply wpAny_bind
  refine wpAny_newObj_type ?_ (by size_fits)
  refine wpAny_bind (m := firstArgMember _ _) ?_
  refine wpAny_of_eq (a := Value.none) (by first | rfl | (simp only [firstArgMember]; rfl)) ?_
  refine wpAny_newObj_type ?_ (by size_fits)
  have kept : ∀ {h0 : Heap}, h0.get? xh = some ox → ∀ o1 o2, ((h0.push o1).push o2).get? xh = some ox := fun g o1 o2 => Heap.get?_push_of_some _ (Heap.get?_push_of_some _ g)
  have gx1 : (s.heap.update it (Obj.mapFields (·.setIfInBounds 0 Value.none))).get? xh = some ox := (Heap.get?_update_other _ _ look).trans gx
  refine HotX.raiseNew_hot (x1 := xh) ⟨hh, ox, fx, kept gx1 _ _, dx, cx⟩ ?_ (Heap.get?_push_size _ rfl) rfl (by first | (simp; done) | (simp; omega)) ?_
  · exact Nat.ne_of_lt (Heap.lt_size (Heap.get?_push_of_some _ gx1))
  apply wpAny_bind
  refine wpAny_isInstance (T := "StopIteration") (b := true) ⟨_, Heap.get?_update_self _ (Heap.get?_push_size _ rfl) rfl, rfl⟩ isSubtype_stop ?_
  refine wpAny_pure (q _ fun b o hb e => ?_)
  have e1 : (s.heap.update it (Obj.mapFields (·.setIfInBounds 0 Value.none))).get? b = some o := (Heap.get?_update_other _ _ (Ne.symm hb)).trans e
  have e2 := Heap.get?_push_of_some (h := s.heap.update it (Obj.mapFields (·.setIfInBounds 0 Value.none))) { cls := .type "tuple", data := .seq (#[] : Array Value) } e1
  first
    | exact (Heap.get?_update_other _ _ (Nat.ne_of_gt (Heap.lt_size e2))).trans (Heap.get?_push_of_some _ e2)
    | (rw [Heap.get?_update_other _ _ (Nat.ne_of_gt (Heap.lt_size (Heap.get?_push_of_some _ e1)))]; exact Heap.get?_push_of_some _ (Heap.get?_push_of_some _ e1))
theorem walks_hot {xh : Addr} (hh : A.handled = some (.ref xh)) (it l : Addr) (n1 : l ≠ it) (n2 : xh ≠ it) (ws : Array Value) :
    Walks prog w A it [it, l, xh] [it] ws.size (fun i v => ws[i]? = some v)
      (fun i h => (h.IsListIter it l i ∧ h.IsList l ws) ∧ ∃ (o : Obj) (fs : Array Value), h.get? xh = some o ∧ o.data = .fields fs ∧ fs[2]? = some .none) where
  sub := fun b hb => by
    rw [List.mem_singleton.mp hb]
    exact List.mem_cons_self
  frame := fun i h h' st k => by
    obtain ⟨⟨a, b⟩, o, fs, c, d⟩ := st
    exact ⟨⟨a.at fun u e => k it (by simp) u e, b.at fun u e => k l (by simp) u e⟩, o, fs, k xh (by simp) o c, d⟩
  item := fun i s Q E hi st q => by
    obtain ⟨⟨a, b⟩, o, fs, c, d⟩ := st
    have hv : ws[i]? = some ws[i] := by simp [hi]
    refine wpAny_pyNext_list_item a b hv fun h' a' sb => q _ h' s.toks hv ⟨⟨a', b.extBut sb.extBut n1⟩, o, fs, (sb.2 xh n2).trans c, d⟩ fun y u hy e => ?_
    exact sb.extBut y u (fun z => hy (List.mem_singleton.mpr z)) e
  done := fun s Q E st q => by
    obtain ⟨⟨a, b⟩, o, fs, c, d⟩ := st
    exact list_over_hot ⟨hh, o, fs, c, d⟩ a b (by simp) n2 fun h' x => q h' s.toks fun y u hy e => x y u (fun z => hy (List.mem_singleton.mpr z)) e
  self := fun i s Q E st q => wpAny_pyIter_listiter st.1.1 q
end
/-- any(xs), xs bools, within the suite of an except -/
theorem any_hot {X : Cx} (c : L2H.HotC X) : CallR X (.builtin "any") (rAny X.K) := by
  intro pins s σ H vs us Q I r h
  obtain ⟨a, bs, rfl, ha, q⟩ := h
  obtain ⟨its, rv, pl, _⟩ := I.list ha
  obtain ⟨p, ⟨hh, fs, e1, e2⟩, hp⟩ := c
  have gp : s.heap.get? p.1 = some p.2 := (I.pin p (List.mem_append_left _ hp)).1
  have np : p.1 ≠ s.heap.objs.size := Nat.ne_of_lt (Heap.lt_size gp)
  rw [Vals.ref1 r]
  have hb := rv.bls
  refine call_any_walk (iter_any pl.isList fun s₂ e st ne => ?_)
  subst e
  refine ⟨_, _, _, _, _, _, _, rfl, walks_hot (A := X.A.in1) hh _ a ne np its.toArray, ⟨st, p.2, fs, Heap.get?_push_of_some _ gp, e1, e2⟩, truth_bools hb, fun h' tk k => ?_⟩
  refine ⟨.bl _, H, I.kept fun b o e => k b o (fun z => ?_) (Heap.get?_push_of_some _ e), ?_, q⟩
  · have z' : b = s.heap.objs.size := List.mem_singleton.mp z
    rw [z'] at e
    exact Nat.lt_irrefl _ (Heap.lt_size e)
  · show Value.bool _ = Value.bool _
    rw [← L2.any_range, hb, List.size_toArray, List.length_map]
end Lm
set_option Elab.async false
set_option linter.all false
set_option maxRecDepth 100000
set_option maxHeartbeats 400000
namespace Lm
open PySem PySem.Spec PyProof.Rows L2
theorem arity_of {x : Str} {k : Int} (h : arOf x = some k) : (x = ("not" : Str) ∧ k = 1) ∨ ∃ b : Bw, x = b.txt ∧ k = 2 := by
  unfold arOf at h
  split at h
  · rename_i e; cases h; exact .inl ⟨e, rfl⟩
  · split at h
    · rename_i e; cases h; exact .inr ⟨.an, e, rfl⟩
    · split at h
      · rename_i e; cases h; exact .inr ⟨.o, e, rfl⟩
      · split at h
        · rename_i e; cases h; exact .inr ⟨.th, e, rfl⟩
        · cases h
theorem isF_back : ∀ (n : Nat) (d : PyData), isF n d = true → ∃ f : Fm, d = f.toD ∧ f.good ∧ f.dep ≤ n
  | 0, d, h => by rw [isF_zero] at h; cases h
  | n + 1, d, h => by
    cases d with
    | tuple ds =>
      cases ds with
      | nil => cases h
      | cons w ds =>
        cases w with
        | str x =>
          rw [isF] at h
          split at h
          · rename_i e
            subst e
            have h : sgOf ds = true := h
            cases ds with
            | nil => cases h
            | cons y t =>
              cases t with
              | cons _ _ => cases h
              | nil =>
                cases y with
                | int i =>
                  have h : (decide (0 ≤ i) && decide (i ≤ 99)) = true := h
                  rw [Bool.and_eq_true, decide_eq_true_eq, decide_eq_true_eq] at h
                  exact ⟨.sg i, rfl, h, (by show 1 ≤ n + 1; omega)⟩
                | _ => cases h
          · split at h
            · cases h
            · rename_i k e
              rw [Bool.and_eq_true, decide_eq_true_eq] at h
              obtain ⟨hl, ha⟩ := h
              rcases arity_of e with ⟨rfl, rfl⟩ | ⟨b, rfl, rfl⟩
              · match ds, hl, ha with
                | [y], _, ha =>
                  simp only [List.map_cons, List.map_nil, List.all_cons, List.all_nil, Bool.and_true, id] at ha
                  obtain ⟨f, rfl, g1, g2⟩ := isF_back n y ha
                  exact ⟨.no f, rfl, g1, (by show f.dep + 1 ≤ n + 1; omega)⟩
                | [], hl, _ => exact absurd hl (by show ¬ ((1 : Nat) : Int) = 1 + 1; decide)
                | _ :: _ :: t, hl, _ => exact absurd hl (by rw [List.length_cons, List.length_cons]; omega)
              · match ds, hl, ha with
                | [y, z], _, ha =>
                  simp only [List.map_cons, List.map_nil, List.all_cons, List.all_nil, Bool.and_true, id, Bool.and_eq_true] at ha
                  obtain ⟨f, rfl, g1, g2⟩ := isF_back n y ha.1
                  obtain ⟨g, rfl, k1, k2⟩ := isF_back n z ha.2
                  exact ⟨.bi b f g, rfl, ⟨g1, k1⟩, (by show max f.dep g.dep + 1 ≤ n + 1; omega)⟩
                | [], hl, _ => exact absurd hl (by show ¬ ((1 : Nat) : Int) = 1 + 2; decide)
                | [_], hl, _ => exact absurd hl (by show ¬ ((2 : Nat) : Int) = 1 + 2; decide)
                | _ :: _ :: _ :: t, hl, _ => exact absurd hl (by rw [List.length_cons, List.length_cons, List.length_cons]; omega)
        | _ => cases h
    | _ => cases h
/-! ### claims: the mirror of is_claim -/
mutual
def sizeD : PyData → Nat
  | .tuple ds => sizeT ds
  | _ => 0
def sizeT : List PyData → Nat
  | [] => 0
  | _ :: ds => 1 + sizeA ds
def sizeA : List PyData → Nat
  | [] => 0
  | d :: ds => sizeD d + sizeA ds
end
theorem sizeD_fm : ∀ f : Fm, sizeD f.toD = f.size
  | .sg i => by
    show 1 + (sizeD (.int i) + 0) = 1
    rfl
  | .no f => by
    show 1 + (sizeD f.toD + 0) = f.size + 1
    rw [sizeD_fm f]
    omega
  | .bi w f g => by
    show 1 + (sizeD f.toD + (sizeD g.toD + 0)) = f.size + g.size + 1
    rw [sizeD_fm f, sizeD_fm g]
    omega
/-- formulas, of so many words at most with those ahead -/
def okL : Nat → List PyData → Bool
  | _, [] => true
  | m, d :: ds => isF 12 d && (decide (m + sizeD d ≤ 60) && okL (m + sizeD d) ds)
def isC : PyData → Bool
  | .tuple [.list ds, .list es] => okL 0 (ds ++ es)
  | _ => false
def cD (L R : List Fm) : PyData := .tuple [.list (L.map Fm.toD), .list (R.map Fm.toD)]
def wordsS (fs : List Fm) : Nat := (fs.map Fm.size).sum
/-- formulas as the program takes them -/
def Gd (fs : List Fm) : Prop := ∀ f ∈ fs, f.good ∧ f.dep ≤ 12
theorem okL_back : ∀ (m : Nat) (ds : List PyData), okL m ds = true → ∃ fs : List Fm, ds = fs.map Fm.toD ∧ Gd fs ∧ (ds ≠ [] → m + wordsS fs ≤ 60)
  | m, [], _ => ⟨[], rfl, (fun _ h => nomatch h), fun h => absurd rfl h⟩
  | m, d :: ds, h => by
    rw [okL, Bool.and_eq_true, Bool.and_eq_true, decide_eq_true_eq] at h
    obtain ⟨f, rfl, g1, g2⟩ := isF_back 12 d h.1
    rw [sizeD_fm] at h
    obtain ⟨fs, rfl, gs, hw⟩ := okL_back _ ds h.2.2
    refine ⟨f :: fs, rfl, fun x hx => ?_, fun _ => ?_⟩
    · rcases List.mem_cons.mp hx with rfl | hx
      · exact ⟨g1, g2⟩
      · exact gs x hx
    · show m + (f.size + wordsS fs) ≤ 60
      by_cases e : fs = []
      · subst e
        show m + (f.size + 0) ≤ 60
        omega
      · have := hw (by simpa using e)
        omega
theorem okL_fms : ∀ (m : Nat) (fs : List Fm), Gd fs → m + wordsS fs ≤ 60 → okL m (fs.map Fm.toD) = true
  | m, [], _, _ => rfl
  | m, f :: fs, h, hw => by
    have hw : m + (f.size + wordsS fs) ≤ 60 := hw
    have hf := h f List.mem_cons_self
    show (isF 12 f.toD && (decide (m + sizeD f.toD ≤ 60) && okL (m + sizeD f.toD) (fs.map Fm.toD))) = true
    rw [sizeD_fm, isF_toD f 12 hf.1 hf.2, decide_eq_true (by omega), okL_fms _ fs (fun x hx => h x (List.mem_cons_of_mem _ hx)) (by omega)]
    rfl
theorem okL_many : ∀ (m : Nat) (fs : List Fm), ¬ m + wordsS fs ≤ 60 → m ≤ 60 → okL m (fs.map Fm.toD) = false
  | m, [], h, hm => absurd hm h
  | m, f :: fs, h, hm => by
    have h : ¬ m + (f.size + wordsS fs) ≤ 60 := h
    show (isF 12 f.toD && (decide (m + sizeD f.toD ≤ 60) && okL (m + sizeD f.toD) (fs.map Fm.toD))) = false
    rw [sizeD_fm]
    by_cases z : m + f.size ≤ 60
    · rw [okL_many (m + f.size) fs (by omega) z, Bool.and_false, Bool.and_false]
    · rw [decide_eq_false z, Bool.false_and, Bool.and_false]
theorem isC_back {d : PyData} (h : isC d = true) : ∃ L R : List Fm, d = cD L R ∧ Gd L ∧ Gd R ∧ wordsS L + wordsS R ≤ 60 := by
  unfold isC at h
  split at h
  · rename_i ds es
    obtain ⟨fs, e, g, hw⟩ := okL_back 0 _ h
    obtain ⟨L, R, e1, e2, e3⟩ := List.append_eq_map_iff.mp e
    subst e1
    refine ⟨L, R, by rw [← e2, ← e3]; rfl, fun f hf => g f (List.mem_append_left _ hf), fun f hf => g f (List.mem_append_right _ hf), ?_⟩
    by_cases z : ds ++ es = []
    · rw [z] at e
      have : L ++ R = [] := List.map_eq_nil_iff.mp e.symm
      rw [List.append_eq_nil_iff] at this
      rw [this.1, this.2]
      decide
    · have := hw z
      unfold wordsS at this ⊢
      rw [List.map_append, List.sum_append] at this
      omega
  · cases h
theorem isC_cD {L R : List Fm} (gl : Gd L) (gr : Gd R) : isC (cD L R) = decide (wordsS L + wordsS R ≤ 60) := by
  have e : wordsS (L ++ R) = wordsS L + wordsS R := by unfold wordsS; rw [List.map_append, List.sum_append]
  have g : Gd (L ++ R) := fun f hf => (List.mem_append.mp hf).elim (gl f) (gr f)
  show okL 0 (L.map Fm.toD ++ R.map Fm.toD) = _
  rw [← List.map_append]
  by_cases z : wordsS L + wordsS R ≤ 60
  · rw [decide_eq_true z]
    exact okL_fms 0 _ g (by omega)
  · rw [decide_eq_false z]
    exact okL_many 0 _ (by omega) (by decide)
theorem isC_len {ds : List PyData} (h : ¬ ds.length = 2) : isC (.tuple ds) = false := by
  unfold isC
  split
  · rename_i e
    injection e with e
    rw [e] at h
    exact absurd rfl h
  · rfl
theorem words_len (fs : List Fm) : fs.length ≤ wordsS fs := by
  induction fs with
  | nil => exact Nat.zero_le _
  | cons f fs ih =>
    show fs.length + 1 ≤ f.size + wordsS fs
    have : 1 ≤ f.size := by cases f <;> first | exact Nat.le_refl 1 | exact Nat.le_add_left 1 _
    omega
/-- of no more than a thousand on its sides, where it is a tuple of two lists -/
def short : PyData → Prop
  | .tuple [.list ds, .list es] => ds.length + es.length ≤ 1000
  | _ => True
/-- the same formulas stand in both -/
def SameF (L R : List Fm) : Prop := ∀ f, f ∈ L ↔ f ∈ R
end Lm
set_option Elab.async false
set_option linter.all false
set_option maxRecDepth 100000
set_option maxHeartbeats 2000000
namespace Lm
open PySem PySem.Spec PyProof.Rows L2
/-- what is known of an error's class -/
structure ErrK (K : PySem.W.Frag) (C : Addr) : Prop where
  ex : ExcC K C
  new : PySem.W.excIn K C [.type "ValueError", .type "Exception", .type "BaseException", .type "object"] "ValueError.__new__" = true
  kp : PySem.W.keepIn K (.ref C) = true
  ty : PySem.W.typeIn K (.ref C) = some (.type "type")
section
variable {P : Program} {w : World} {K : PySem.W.Frag} {mg : Str → Option Value} {base : Heap} {f : Addr} {fd : FuncData}
theorem fun_okN {x qual : Str} {st : Stmt} {N ps : List Str} {k : Nat} {sp : Sp} (F : Fun K x qual st f fd) (S : FnScope N ps (defScope st)) (len : ∀ vs H Q E, sp vs H Q E → vs.length = ps.length)
    (bd : ∀ (cv : Value) (A : Around) (outer : List Env) (s : Shared) (H : Hp) (vs : List V) (Q : VK) (E : XK), Room k (A.deeper (envOfC qual (defScope st) s.heap.objs.size f cv)) → sp vs H Q E →
      ∃ t, PSs (cxOf (L2N.CX P w) P w K mg base N qual (defScope st) f cv A outer s H E) (defBody st) t ∧ t { nx := fun _ H' => Q .non H', rt := Q } (L2.start N vs) H) : FnOk P w K mg base (L2N.CX P w) (k + 1) f fd ps sp := by
  obtain ⟨oc, od, kV, doc, pm, an, cv, ct, osl, rfl, lk, hcd⟩ := F.ex
  exact fn_of lk hcd S len fun A outer s H vs Q E hr h => bd cv A outer s H vs Q E hr h
/-- callable by its name; what it raises has no context -/
def HasN (P : Program) (w : World) (K : PySem.W.Frag) (mg : Str → Option Value) (base : Heap) (k : Nat) (x : Str) (ps : List Str) (sp : Sp) : Prop :=
  ∃ f fd, FnOk P w K mg base (L2N.CX P w) k f fd ps sp ∧ Binds K fd ps [] ∧ mg x = some (.ref f) ∧ PySem.W.keepIn K (.ref f) = true
theorem Df.hasN {k : Nat} {x : Str} {st : Stmt} {ps : List Str} {sp : Sp} (D : Df K mg x st ps f fd) (F : FnOk P w K mg base (L2N.CX P w) k f fd ps sp) : HasN P w K mg base k x ps sp := ⟨f, fd, F, D.bd, D.mg_, D.fn.kp⟩
/-- where it raises nothing -/
theorem HasN.calm {k : Nat} {x : Str} {ps : List Str} {sp sp0 : Sp} (h : HasN P w K mg base k x ps sp) (i : ∀ vs H Q E, sp0 vs H Q E → sp vs H Q E0) : Has P w K mg base k x ps sp0 := by
  obtain ⟨f, fd, F, b, m, kp⟩ := h
  refine ⟨f, fd, ⟨fun vs H Q E q => F.len vs H Q E0 (i _ _ _ _ q), fun A outer s H args us vs Q E hr e0 hb hv hs => codeAny_mono (F.run A outer s H args us vs Q E0 hr e0 hb hv (i _ _ _ _ hs)) fun r s' z => ?_⟩, b, m, kp⟩
  cases r with
  | error e =>
    obtain ⟨_, _, _, _, _, _, _, _, _, _, _, _, no⟩ := (show L2N.CX P w outer H s E0 e s' from z)
    exact no.elim
  | ok fl =>
    cases fl with
    | ret u => exact z
    | next => exact z
    | brk => exact z
    | cont => exact z
theorem pe_callN {X : Cx} {k : Nat} {x : Str} {ps : List Str} {sp : Sp} {W : WX} {E : XK} {p pos : Pos} {e : Expr} {es : List Expr} {t : TA} (h : HasN X.prog X.w X.K X.mg X.base k x ps sp) (tk : L2N.Takes X W) (tw : ∀ c d σ H, E c d H → W c d σ H) (hr : Room k X.A) (hg : Gl X x) (ha : PA X (e :: es) t)
    (hdb : (x == ("__debug__" : Str)) = false := by decide) (he : starEach (e :: es) X.env = (false, eval e X.env) :: starEach es X.env := by rfl) (hpl : (backTo pos (starEach es X.env)).any (·.1) = false := by rfl) : PE X (.Call (.Name x p) (e :: es) [] pos) (tCall sp [] E t) := by
  obtain ⟨f, fd, F, b, m, kp⟩ := h
  exact pe_call F hr hg m kp b .nil (L2N.passes_call tk tw) ha hdb he hpl
end
end Lm
set_option Elab.async false
set_option linter.all false
set_option maxRecDepth 100000
set_option maxHeartbeats 2000000
namespace Lm
open PySem PySem.Spec PyProof.Rows L2
/-! ### what is a formula, told back -/
/-! ### defs that raise -/
section
variable {P : Program} {w : World} {K : PySem.W.Frag} {mg : Str → Option Value} {base : Heap} {f : Addr} {fd : FuncData}
def spRefuse (K : PySem.W.Frag) (C0 : Addr) : Sp := fun vs H Q E => ∃ v d, vs = [v] ∧ Dp K H v d ∧ (isF 12 d = true → ∀ H', Same H H' → Q .non H') ∧ (isF 12 d = false → ∀ H', Same H H' → E (.ref C0) none H')
def spTruthN (K : PySem.W.Frag) (C0 : Addr) : Sp := fun vs H Q E => ∃ (v : V) (d : PyData) (a : Addr) (ns : List Int), vs = [v, .ref a] ∧ Dp K H v d ∧ SqL K H a (ns.map V.int) ∧ ns.length ≤ 1000 ∧
  (∀ g : Fm, d = g.toD → g.good → g.dep ≤ 12 → ∀ H', Same H H' → Q (.bl (g.tr fun i => decide (i ∈ ns))) H') ∧ (isF 12 d = false → ∀ H', Same H H' → E (.ref C0) none H')
end
end Lm
set_option Elab.async false
set_option linter.all false
set_option maxRecDepth 100000
set_option maxHeartbeats 400000
namespace Lm
open PySem PySem.Spec PyProof.Rows L2
def spWords (K : PySem.W.Frag) (n : Nat) : Sp := fun vs H Q _ => ∃ (v : V) (f : Fm), vs = [v] ∧ Dp K H v f.toD ∧ f.dep < n ∧ ∀ H', Same H H' → Q (.int (f.size : Int)) H'
def spIsClaim (K : PySem.W.Frag) : Sp := fun vs H Q _ => ∃ (v : V) (d : PyData), vs = [v] ∧ Dp K H v d ∧ short d ∧ ∀ H', Same H H' → Q (.bl (isC d)) H'
def spNoClaim (K : PySem.W.Frag) (C0 : Addr) : Sp := fun vs H Q E => ∃ (v : V) (d : PyData), vs = [v] ∧ Dp K H v d ∧ short d ∧ (isC d = true → ∀ H', Same H H' → Q .non H') ∧ (isC d = false → ∀ H', Same H H' → E (.ref C0) none H')
theorem sum_sizes (f : Fm) : 1 + ((f.kids.map fun k => (k.size : Int)).sum) = (f.size : Int) := by
  cases f with
  | sg i => rfl
  | no f => show 1 + ((f.size : Int) + 0) = ((f.size + 1 : Nat) : Int); omega
  | bi w f g => show 1 + ((f.size : Int) + ((g.size : Int) + 0)) = ((f.size + g.size + 1 : Nat) : Int); omega
section
variable {P : Program} {w : World} {K : PySem.W.Frag} {mg : Str → Option Value} {base : Heap} {f : Addr} {fd : FuncData}
theorem scWords : FnScope ["f", "inner"] ["f"] (defScope sWords) := ⟨rfl, rfl, rfl, by decide +kernel, rfl, by decide +kernel, by decide +kernel⟩
theorem ok_words {n : Nat} (D : Df K mg "words" sWords ["f"] f fd) (ms : mg "sum" = none) (I : Has P w K mg base 1 "inner_formulas" ["f"] (spInner K)) (G : Has P w K mg base (n + 1) "words" ["f"] (spWords K n)) : FnOk P w K mg base CX0 (n + 2) f fd ["f"] (spWords K (n + 1)) := by
  refine D.fn.ok scWords (fun vs H Q E h => ?_) (fun cdv A outer s H vs Q E hr h => ?_)
  · obtain ⟨v, g, rfl, _⟩ := h
    rfl
  obtain ⟨v, g, rfl, hd, hn, q⟩ := h
  have hr1 : Room 1 (A.deeper (envOfC "words" (defScope sWords) s.heap.objs.size f cdv)) := hr.mono (by omega)
  refine ⟨_, pss_one (ps_ret (pe_op op_add pe_int (pe_callB (cr_sum rfl) (by rfl) ms bt_sum (pa_cons (pe_lc (own := [("inner", 1)]) (g := gName 1) (tt := tYes) rfl scWords.nd (pi_tup (pe_callH I hr1 (by rfl) (pa_cons (pv 0) pa_nil)))
    (blkOk_by (N := ["f", "inner"]) (sc := defScope sWords) (by decide +kernel)) (fun _ _ _ _ _ => pg_name (i := 1) scWords.nd rfl (Or.inl rfl)) (fun _ _ _ _ _ => pts_nil)
    (fun _ _ _ _ _ => pe_callH G hr (by rfl) (pa_cons (pv 1) pa_nil))) pa_nil)))), ?_⟩
  refine ⟨v, rfl, v, g, rfl, hd, fun r H1 ks e1 hk hks => ⟨r, rfl, ⟨ks, hk⟩, fun L nL => ?_⟩⟩
  have hkl : ks.length = g.kids.length := by rw [dpAll_len hks, List.length_map]
  refine lc_map_tup (K := K) (a := r) (xs := ks) (ys := (g.kids.map fun k => (k.size : Int)).map V.int) (j := 1) hk nL (by rw [List.length_map, List.length_map, hkl]) (by rw [List.length_map, List.length_map]; exact sl1000 (Nat.le_trans (kids_len g) (by decide))) (fun i y b H' hi hb e2 Q' q' => ?_) (fun H' e2 hL => ?_)
  · obtain ⟨k, hk1, hy⟩ := kid_get hks hi
    have dl := kid_dep (List.mem_of_getElem? hk1)
    have eb : b = .int (k.size : Int) := by
      rw [List.getElem?_map, List.getElem?_map, hk1] at hb
      exact (Option.some.inj hb).symm
    refine ⟨y, rfl, y, k, rfl, dp_same e2 _ _ hy, by omega, fun H'' e3 => ?_⟩
    rw [← eb]
    exact q' H'' e3
  · refine ⟨L, _, rfl, SqL.of hL, 1, _, rfl, rfl, ?_⟩
    dsimp only
    rw [sum_sizes]
    exact q H' (e1.trans e2)
theorem all_words (D : Df K mg "words" sWords ["f"] f fd) (ms : mg "sum" = none) (I : Has P w K mg base 1 "inner_formulas" ["f"] (spInner K)) : ∀ n : Nat, Has P w K mg base (n + 1) "words" ["f"] (spWords K n)
  | 0 => by
    have no : ∀ vs H Q E, ¬ spWords K 0 vs H Q E := fun vs H Q E h => by
      obtain ⟨v, g, _, _, h2, _⟩ := h
      omega
    exact D.has ⟨fun vs H Q E h => absurd h (no vs H Q E), fun A outer s H args us vs Q E _ _ _ _ h => absurd h (no vs H Q E)⟩
  | n + 1 => D.has (ok_words D ms I (all_words D ms I n))
/-! ### is_claim -/
theorem scIsClaim : FnScope ["thing", "left", "right", "many", "f"] ["thing"] (defScope sIsClaim) := ⟨rfl, rfl, rfl, by decide +kernel, rfl, by decide +kernel, by decide +kernel⟩
theorem ok_isClaim {t : Tok} (D : Df K mg "is_claim" sIsClaim ["thing"] f fd) (B : Blt mg) (mw : mg "MOST_WORDS" = some (.int 60 t)) (IF : Has P w K mg base 16 "is_formula" ["thing"] (spIsFormula K)) (WO : Has P w K mg base 14 "words" ["f"] (spWords K 13)) : FnOk P w K mg base CX0 17 f fd ["thing"] (spIsClaim K) := by
  refine D.fn.ok scIsClaim (fun vs H Q E h => ?_) (fun cdv A outer s H vs Q E hr h => ?_)
  · obtain ⟨v, d, rfl, _⟩ := h
    rfl
  obtain ⟨v, d, rfl, hd, hsh, q0⟩ := h
  have q : ∀ (b : Bool) (H' : Hp), Same H H' → isC d = b → Q (.bl b) H' := fun b H' e h => h ▸ q0 H' e
  have r14 : Room 14 (A.deeper (envOfC "is_claim" (defScope sIsClaim) s.heap.objs.size f cdv)) := hr.mono (by decide)
  refine ⟨_, pss_cons (ps_if (PW.pt (pw_or (pt_not (pt_val (pe_callB call_isi (by rfl) B.isinstance bt_isinstance (pa_cons (pv 0) (pa_cons (pe_bltn (v := .ty "tuple") (by rfl) B.tuple bt_tuple rfl) pa_nil))))) (pw_or1 (pt_cmpR op_ne (pe_callB call_len_seq (by rfl) B.len PySem.boot_len (pa_cons (pv 0) pa_nil)) pe_int (nomark _))))) (pss_one (ps_ret pe_bl)) pss_nil)
    (pss_cons (ps_asg (pv 0) (pg_tup rfl (pgs_cons (pg_name (i := 1) scIsClaim.nd rfl (.inl rfl)) (pgs_cons (pg_name (i := 2) scIsClaim.nd rfl (.inl rfl)) pgs_nil))))
    (pss_cons (ps_if (PW.pt (pw_or (pt_not (pt_val (pe_callB call_isi (by rfl) B.isinstance bt_isinstance (pa_cons (pv 1) (pa_cons (pe_bltn (v := .ty "list") (by rfl) B.list bt_list rfl) pa_nil))))) (pw_or1 (pt_not (pt_val (pe_callB call_isi (by rfl) B.isinstance bt_isinstance (pa_cons (pv 2) (pa_cons (pe_bltn (v := .ty "list") (by rfl) B.list bt_list rfl) pa_nil)))))))) (pss_one (ps_ret pe_bl)) pss_nil)
    (pss_cons (ps_set (i := 3) scIsClaim.nd rfl (.inl rfl) pe_int)
    (pss_cons (ps_for PassesOwn.never rfl (pi_list (pe_op op_catL (pv 1) (pv 2))) (pg_name (i := 4) scIsClaim.nd rfl (.inl rfl))
      (pss_cons (ps_if (pt_not (pt_val (pe_callH IF (hr.mono (by decide)) (by rfl) (pa_cons (pv 4) pa_nil)))) (pss_one (ps_ret pe_bl)) pss_nil)
      (pss_cons (ps_aug (i := 3) scIsClaim.nd rfl (.inl rfl) (pe_callH WO r14 (by rfl) (pa_cons (pv 4) pa_nil)) ip_add)
      (pss_one (ps_if (pt_cmpR op_gt (pv 3) (pe_glob (v := .int 60) (by rfl) mw ⟨_, rfl⟩) (nomark _)) (pss_one (ps_ret pe_bl)) pss_nil)))))
    (pss_one (ps_ret pe_bl)))))), ?_⟩
  refine ⟨v, rfl, v, .ty "tuple", _, _, _, rfl, .ty "tuple", tyx_of hd, kit_tuple hd, isTu d, rfl, ?_⟩
  refine ite2 (fun c1 => ?_) (fun c1 => ?_)
  · refine q false H (Same.refl H) ?_
    cases d <;> first | rfl | exact (Bool.false_ne_true c1).elim
  cases hd with
  | tup hs ha =>
    rename_i a xs ds
    have hlen := dpAll_len ha
    refine ⟨.ref a, rfl, a, xs, rfl, .inr hs, rfl, _, rfl, ?_⟩
    refine ite2 (fun c2 => ?_) (fun c2 => ?_)
    · refine q false H (Same.refl H) ?_
      have ne : ¬ xs.length = 2 := fun e => by rw [e] at c2; exact absurd c2 (by decide)
      exact isC_len (by omega)
    · have e2 : xs.length = 2 := by
        by_cases z : xs.length = 2
        · exact z
        · exfalso
          apply c2
          have z' : ¬ V.int ((xs.length : Nat) : Int) = V.int 2 := fun y => z (by have := V.int.inj y; omega)
          show (!decide (V.int ((xs.length : Nat) : Int) = V.int 2)) = true
          rw [decide_eq_false z']
          rfl
      obtain ⟨x, y, rfl⟩ : ∃ x y, xs = [x, y] := by
        match xs, e2 with
        | [x, y], _ => exact ⟨x, y, rfl⟩
      cases ha with
      | cons hx ha =>
        cases ha with
        | cons hy ha =>
          cases ha
          rename_i dx dy
          refine ⟨.ref a, rfl, a, [x, y], rfl, hs, rfl, x, [y], rfl, y, [], rfl, rfl, ?_⟩
          refine ⟨x, rfl, x, .ty "list", _, _, _, rfl, .ty "list", tyx_of hx, kit_list hx, isLi dx, rfl, ?_⟩
          refine ite2 (fun c3 => ?_) (fun c3 => ?_)
          · refine q false H (Same.refl H) ?_
            cases dx <;> first | rfl | exact (Bool.false_ne_true c3).elim
          refine ⟨y, rfl, y, .ty "list", _, _, _, rfl, .ty "list", tyx_of hy, kit_list hy, isLi dy, rfl, ?_⟩
          refine ite2 (fun c4 => ?_) (fun c4 => ?_)
          · refine q false H (Same.refl H) ?_
            cases dx <;> first
              | rfl
              | (cases dy <;> first | rfl | exact (Bool.false_ne_true c4).elim)
          cases hx with
          | lst h1 a1 =>
            cases hy with
            | lst h2 a2 =>
              rename_i b1 zs1 ds1 b2 zs2 ds2
              have hsh : ds1.length + ds2.length ≤ 1000 := hsh
              have n1 := dpAll_len a1
              have n2 := dpAll_len a2
              refine ⟨.ref b1, rfl, .ref b2, rfl, b1, b2, zs1, zs2, rfl, rfl, h1, h2, sl1000 (by omega), fun p np => ?_⟩
              have s1 := same_new np (HO.lst (zs1 ++ zs2))
              have aa := dpAll_same s1 _ _ (dpAll_app a1 a2)
              refine ⟨p, rfl, ⟨_, SqL.of upd_same⟩, ?_⟩
              have whole : isC (.tuple [.list ds1, .list ds2]) = okL 0 (ds1 ++ ds2) := rfl
              refine for_list (K := K) (a := p) (xs := zs1 ++ zs2) (fun i σ H' => ∃ (m : Nat) (x4 : Option V), σ = [some (.ref a), some (.ref b1), some (.ref b2), some (.int (m : Int)), x4] ∧ Same (upd H p (.lst (zs1 ++ zs2))) H' ∧ okL 0 (ds1 ++ ds2) = okL m ((ds1 ++ ds2).drop i))
                ⟨0, none, rfl, Same.refl _, rfl⟩ (fun i σ H' _ ⟨_, _, _, e, _⟩ => SqL.of (e _ _ upd_same)) ?_ ?_
              · rintro i z σ H' hi ⟨m, x4, rfl, e1, hm⟩
                obtain ⟨dz, hdz, hz⟩ := dpAll_get aa hi
                have hz' := dp_same e1 _ _ hz
                have dr : (ds1 ++ ds2).drop i = dz :: (ds1 ++ ds2).drop (i + 1) := by
                  have lt := (List.getElem?_eq_some_iff.mp hdz).1
                  rw [List.drop_eq_getElem_cons lt]
                  have e := (List.getElem?_eq_some_iff.mp hdz).2
                  rw [e]
                rw [dr, okL] at hm
                refine ⟨z, rfl, z, dz, rfl, hz', fun H2 e2 => ⟨isF 12 dz, rfl, ?_⟩⟩
                cases c5 : isF 12 dz with
                | false =>
                  refine iteT (q false H2 (s1.trans (e1.trans e2)) ?_)
                  rw [whole, hm, c5]
                  rfl
                | true =>
                  refine iteF ?_
                  rw [c5, Bool.true_and] at hm
                  obtain ⟨g, rfl, g1, g2⟩ := isF_back 12 dz c5
                  rw [sizeD_fm] at hm
                  refine ⟨.int (m : Int), rfl, z, rfl, z, g, rfl, dp_same e2 _ _ hz', by omega, fun H3 e3 => ⟨(m : Int), (g.size : Int), rfl, rfl, ?_⟩⟩
                  refine ⟨_, rfl, (m : Int) + (g.size : Int), 60, rfl, rfl, _, rfl, ?_⟩
                  have eH := s1.trans (e1.trans (e2.trans e3))
                  refine ite2 (fun c6 => ?_) (fun c6 => ?_)
                  · have c6 : 60 < (m : Int) + (g.size : Int) := of_decide_eq_true c6
                    refine q false H3 eH ?_
                    rw [whole, hm, decide_eq_false (by omega), Bool.false_and]
                  · have c6 : ¬ 60 < (m : Int) + (g.size : Int) := fun z => c6 (decide_eq_true z)
                    rw [decide_eq_true (by omega), Bool.true_and] at hm
                    exact ⟨m + g.size, some z, rfl, e1.trans (e2.trans e3), hm⟩
              · rintro σ H' ⟨m, x4, rfl, e1, hm⟩
                refine q true H' (s1.trans e1) ?_
                rw [whole, hm, List.length_append, n1, n2, ← List.length_append, List.drop_length]
                rfl
            | _ => exact absurd rfl c4
          | _ => exact absurd rfl c3
  | _ => exact absurd rfl c1
end
end Lm
set_option Elab.async false
set_option linter.all false
set_option maxRecDepth 100000
set_option maxHeartbeats 400000
namespace Lm
open PySem PySem.Spec PyProof.Rows L2
theorem short_cD {L R : List Fm} (h : wordsS L + wordsS R ≤ 60) : short (cD L R) := by
  show (L.map Fm.toD).length + (R.map Fm.toD).length ≤ 1000
  rw [List.length_map, List.length_map]
  have := words_len L
  have := words_len R
  omega
theorem spell_same {L R : List Fm} (gl : Gd L) (gr : Gd R) : (∀ y, y ∈ L.map spS ↔ y ∈ R.map spS) ↔ SameF L R := by
  have one : ∀ {A B : List Fm}, Gd A → Gd B → (∀ y, y ∈ A.map spS ↔ y ∈ B.map spS) → ∀ f, f ∈ A → f ∈ B := fun {A B} ga gb h f hf => by
    obtain ⟨g, hg, e⟩ := List.mem_map.mp ((h (spS f)).1 (List.mem_map_of_mem hf))
    rw [← spS_inj (gb g hg).1 (ga f hf).1 e]
    exact hg
  constructor
  · exact fun h f => ⟨one gl gr h f, one gr gl (fun y => (h y).symm) f⟩
  · intro h y
    constructor
    · intro hy
      obtain ⟨f, hf, e⟩ := List.mem_map.mp hy
      exact List.mem_map.mpr ⟨f, (h f).1 hf, e⟩
    · intro hy
      obtain ⟨f, hf, e⟩ := List.mem_map.mp hy
      exact List.mem_map.mpr ⟨f, (h f).2 hf, e⟩
def spAlike (K : PySem.W.Frag) (C0 : Addr) : Sp := fun vs H Q E => ∃ (v u : V) (d e : PyData), vs = [v, u] ∧ Dp K H v d ∧ Dp K H u e ∧ short d ∧ short e ∧
  (isC d = true → isC e = true → ∀ L R L' R' : List Fm, d = cD L R → e = cD L' R' → Gd L → Gd R → Gd L' → Gd R' → ∀ (c : Bool) (H' : Hp), (c = true ↔ SameF L L' ∧ SameF R R') → Same H H' → Q (.bl c) H') ∧ ((isC d && isC e) = false → ∀ H', Same H H' → E (.ref C0) none H')
def spHolds (K : PySem.W.Frag) (C0 : Addr) : Sp := fun vs H Q E => ∃ (v : V) (d : PyData) (a : Addr) (ns : List Int), vs = [v, .ref a] ∧ Dp K H v d ∧ short d ∧ SqL K H a (ns.map V.int) ∧ ns.length ≤ 1000 ∧
  (isC d = true → ∀ L R : List Fm, d = cD L R → Gd L → Gd R → ∀ H', Same H H' → Q (.bl (!(L.all fun f => f.tr fun i => decide (i ∈ ns)) || R.any fun f => f.tr fun i => decide (i ∈ ns))) H') ∧ (isC d = false → ∀ H', Same H H' → E (.ref C0) none H')
theorem dp_claim {K : PySem.W.Frag} {H : Hp} {v : V} {L R : List Fm} (h : Dp K H v (cD L R)) : ∃ (a b c : Addr) (xs zs : List V), v = .ref a ∧ SqT K H a [.ref b, .ref c] ∧ SqL K H b xs ∧ SqL K H c zs ∧ DpAll K H xs (L.map Fm.toD) ∧ DpAll K H zs (R.map Fm.toD) := by
  have h : Dp K H v (.tuple [.list (L.map Fm.toD), .list (R.map Fm.toD)]) := h
  cases h with
  | tup hs ha =>
    cases ha with
    | cons hx ha =>
      cases ha with
      | cons hy ha =>
        cases ha
        cases hx with
        | lst h1 a1 =>
          cases hy with
          | lst h2 a2 => exact ⟨_, _, _, _, _, rfl, hs, h1, h2, a1, a2⟩
section
variable {P : Program} {w : World} {K : PySem.W.Frag} {mg : Str → Option Value} {base : Heap} {f : Addr} {fd : FuncData}
theorem scNoClaim : FnScope ["thing"] ["thing"] (defScope sNoClaim) := ⟨rfl, rfl, rfl, by decide +kernel, rfl, by decide +kernel, by decide +kernel⟩
theorem ok_noClaim {C0 : Addr} (D : Df K mg "refuse_no_claim" sNoClaim ["thing"] f fd) (G : Has P w K mg base 17 "is_claim" ["thing"] (spIsClaim K)) (B : ErrK K C0) (mB : mg "BadClaim" = some (.ref C0)) : FnOk P w K mg base (L2N.CX P w) 18 f fd ["thing"] (spNoClaim K C0) := by
  refine fun_okN D.fn scNoClaim (fun vs H Q E h => ?_) (fun cv A outer s H vs Q E hr h => ?_)
  · obtain ⟨v, d, rfl, _⟩ := h
    rfl
  obtain ⟨v, d, rfl, hd, hsh, q1, q2⟩ := h
  refine ⟨_, pss_one (ps_if (pt_not (pt_val (pe_callH G hr (by rfl) (pa_cons (pv 0) pa_nil)))) (pss_one (L2N.ps_raise rfl (L2N.takes_of rfl rfl rfl rfl) (L2N.pmk_own PySem.F.excBase_ValueError B.new mB B.kp (raises_own B.ex.hs B.ty) (by rfl)))) pss_nil), ?_⟩
  refine ⟨v, rfl, v, d, rfl, hd, hsh, fun H' e => ⟨isC d, rfl, ?_⟩⟩
  cases c : isC d with
  | true => exact iteF (q1 c H' e)
  | false => exact iteT (q2 c H' e)
theorem all_map (L : List Fm) (t : Fm → Bool) : (L.map t).all id = L.all t := by
  induction L with
  | nil => rfl
  | cons f L ih => rw [List.map_cons, List.all_cons, List.all_cons, ih]; rfl
theorem any_map (L : List Fm) (t : Fm → Bool) : (L.map t).any id = L.any t := by
  induction L with
  | nil => rfl
  | cons f L ih => rw [List.map_cons, List.any_cons, List.any_cons, ih]; rfl
end
end Lm
set_option Elab.async false
set_option linter.all false
set_option maxRecDepth 100000
set_option maxHeartbeats 400000
/-! sets of keys: compared, made by a comprehension -/
namespace Lm
open PySem PySem.Spec PyProof.Rows L2
theorem entry_seteq : entryFor table "set.__eq__" = some Builtin.«frozenset.__eq__» :=
  entryFor_alias (id' := "frozenset.__eq__") (by kernel_rfl) rfl (by decide +kernel) (by kernel_rfl)
section
variable {prog : Program} {w : World} {A : Around} {E : Value → Shared → Prop} {s : Shared}
theorem quiet_scan {x : Value} (h : x.scannable = true) : Builtin.Frozenset.quietEq x = pure true := by
  cases x <;> first | rfl | exact absurd h Bool.false_ne_true
theorem sizeOf_set {a : Addr} {o : Obj} {es : Array (Int × Value)} {ep : Nat} {t : SetTable} {Q : Nat → Shared → Prop} (ho : s.heap.get? a = some o) (hd : o.data = .set es ep t) (hf : t.fits es.size = true) (q : Q es.size s) : wpAny (model prog w) A (Builtin.Frozenset.sizeOf a) Q E s := by
  unfold Builtin.Frozenset.sizeOf
  exact wpAny_bind (wpAny_setEntries_of ho hd hf (wpAny_pure q))
theorem anySet_set {a : Addr} {Q : Bool → Shared → Prop} (h : s.TypeIs (.ref a) "set") (q : Q true s) : wpAny (model prog w) A (Builtin.Frozenset.isAnySet (.ref a)) Q E s := by
  unfold Builtin.Frozenset.isAnySet
  refine wpAny_bind (wpAny_isInstance (T := "set") (b := true) h (by rw [isSubtype_type]; kernel_rfl) ?_)
  exact wpAny_pure q
/-- all that stands in a stands in b: one after the other, in the order in which they lie -/
theorem unseen_quiet {a b : Addr} {oa ob : Obj} {ea eb : Array (Int × Value)} {pa pb : Nat} {ta tb : SetTable} {Q : List (Int × Value) → Shared → Prop} (ha : s.heap.get? a = some oa) (da : oa.data = .set ea pa ta) (fa : ta.fits ea.size = true) (hb : s.heap.get? b = some ob) (db : ob.data = .set eb pb tb) (fb : tb.fits eb.size = true)
    (sa : ∀ e ∈ ea.toList, e.2.scannable = true) (sb : ∀ e ∈ eb.toList, e.2.scannable = true) (q : Q ea.toList s) : wpAny (model prog w) A (Builtin.Frozenset.walkUnseen a b) Q E s := by
  unfold Builtin.Frozenset.walkUnseen
  refine wpAny_bind (wpAny_setEntries_of ha da fa ?_)
  refine wpAny_bind (wpAny_setEntries_of hb db fb ?_)
  refine wpAny_bind (wpAny_forIn_list _ (fun rest r s' => s' = s ∧ r = (none, ()) ∧ ∀ e ∈ rest, e.2.scannable = true) _ ?_ ?_ _ _ ⟨rfl, rfl, fun e he => (List.mem_append.mp he).elim (sa e) (sb e)⟩)
  · rintro ⟨i, y⟩ rest r s' ⟨rfl, rfl, hs⟩
    have e := quiet_scan (hs (i, y) List.mem_cons_self)
    show wpAny _ _ (Builtin.Frozenset.quietEq y >>= _) _ _ _
    rw [e]
    refine wpAny_bind (wpAny_pure ?_)
    simp only [Bool.not_true, Bool.false_eq_true, if_false]
    exact wpAny_pure ⟨rfl, rfl, fun e he => hs e (List.mem_cons_of_mem _ he)⟩
  · rintro r s' ⟨rfl, rfl, _⟩
    exact wpAny_pure q
variable {K : Type} [DecidableEq K] {knd : KeyKind prog w K}
theorem subset_of {a b : Addr} {S T : K → Bool} {n m : Nat} {Q : Bool → Shared → Prop} {id : String} (RA : s.heap.SetOf knd a S n) (RB : s.heap.SetOf knd b T m) (e : n = m) (q : ∀ c : Bool, (c = true ↔ ∀ k, S k = true → T k = true) → Q c s) : wpAny (model prog w) A (Builtin.Frozenset.subsetOf id a b) Q E s := by
  have RB' := RB
  obtain ⟨oa, ea, pa, ta, ha, xa, da, la, ma, ba, fa, na⟩ := RA
  obtain ⟨ob, eb, pb, tb, hb, xb, db, lb, mb, bb, fb, nb⟩ := RB
  unfold Builtin.Frozenset.subsetOf
  refine wpAny_bind (sizeOf_set ha da fa ?_)
  refine wpAny_bind (sizeOf_set hb db fb ?_)
  rw [if_neg (by omega)]
  refine wpAny_bind (wpAny_setEpoch_of ha da fa ?_)
  refine wpAny_bind (unseen_quiet ha da fa hb db fb (fun e he => (la e he).2) (fun e he => (lb e he).2) ?_)
  have sub : ∀ k, S k = true ↔ ∃ e ∈ ea.toList, knd.is k e.2 = true := ma
  refine wpAny_bind (wpAny_forIn_list _ (fun rest r s' => s' = s ∧ r = (none, ()) ∧ (∀ e ∈ rest, e ∈ ea.toList) ∧ (∀ e ∈ ea.toList, e ∈ rest ∨ ∃ k, knd.is k e.2 = true ∧ T k = true)) _ ?_ ?_ _ _ ⟨rfl, rfl, fun e he => he, fun e he => .inl he⟩)
  · rintro ⟨i, y⟩ rest r s' ⟨rfl, rfl, hin, hh⟩
    have hy := hin (i, y) List.mem_cons_self
    obtain ⟨⟨k, hk, hi⟩, hsc⟩ := la _ hy
    have hi : i = knd.hash k := hi
    subst hi
    show wpAny _ _ (holding [y] (setFind b y (knd.hash k)) >>= _) _ _ _
    refine wpAny_bind (wpAny_holding (wpAny_setFind_of hk hsc RB' fun r hr => ?_))
    cases hT : T k with
    | false =>
      rw [hT] at hr
      cases r with
      | some z => cases hr
      | none =>
        simp only [Option.isNone_none, if_true]
        refine wpAny_pure ?_
        dsimp only
        refine wpAny_pure (q false ⟨fun z => (nomatch z), fun z => ?_⟩)
        have z2 := z k ((ma k).2 ⟨_, hy, hk⟩)
        rw [hT] at z2
        exact z2
    | true =>
      rw [hT] at hr
      cases r with
      | none => cases hr
      | some z =>
        simp only [Option.isNone_some, Bool.false_eq_true, if_false]
        unfold Builtin.Frozenset.unchanged
        refine wpAny_bind (wpAny_bind (wpAny_setEpoch_of ha da fa ?_))
        rw [if_neg (by simp)]
        refine wpAny_pure (wpAny_pure ⟨rfl, rfl, fun e he => hin e (List.mem_cons_of_mem _ he), fun e he => ?_⟩)
        rcases hh e he with h | h
        · rcases List.mem_cons.mp h with h | h
          · exact .inr ⟨k, by rw [h]; exact hk, hT⟩
          · exact .inl h
        · exact .inr h
  · rintro r s' ⟨rfl, rfl, _, hh⟩
    refine wpAny_pure (q true ⟨fun _ k hk => ?_, fun _ => rfl⟩)
    obtain ⟨e, he, h⟩ := (ma k).1 hk
    rcases hh e he with z | ⟨k', h1, h2⟩
    · cases z
    · rw [knd.inj _ _ _ h h1]
      exact h2
theorem sets_eq {a b : Addr} {S T : K → Bool} {n m : Nat} {Q : Value → Shared → Prop} (RA : s.heap.SetOf knd a S n) (RB : s.heap.SetOf knd b T m) (hu : A.units < cLine) (q : ∀ c : Bool, (c = true ↔ n = m ∧ ∀ k, S k = true → T k = true) → Q (.bool c) s) : wpAny (model prog w) A (richCompare .Eq (.ref a) (.ref b)) Q E s := by
  refine wpAny_richCompare_same_room (op := .Eq) RA.typeIs RB.typeIs PySem.F.slot_set_eq (wpAny_call_entry PySem.F.slot_set_eq RA.typeIs entry_seteq ?_ (PySem.F.args_set_eq_2 _ _)) hu
  show wpAny _ _ (Builtin.Frozenset.slot1 "__eq__" ⟨[.ref a, .ref b], []⟩ >>= _) _ _ s
  refine wpAny_bind ?_
  unfold Builtin.Frozenset.slot1 slotArgs
  simp only [List.isEmpty_nil, Bool.not_true, Bool.false_eq_true, ↓reduceIte, List.length_cons, List.length_nil, bne_self_eq_false]
  refine wpAny_bind (wpAny_pure ?_)
  dsimp only
  refine wpAny_pure ?_
  dsimp only
  have RA' := RA
  have RB' := RB
  obtain ⟨oa, ea, pa, ta, ha, xa, da, la, ma, ba, fa, na⟩ := RA
  obtain ⟨ob, eb, pb, tb, hb, xb, db, lb, mb, bb, fb, nb⟩ := RB
  refine wpAny_bind (anySet_set ⟨ob, hb, xb.1⟩ ?_)
  simp only [Bool.not_true, Bool.false_eq_true, if_false]
  unfold Builtin.Frozenset.addrOf
  refine wpAny_bind (wpAny_pure (wpAny_bind (wpAny_pure ?_)))
  refine wpAny_bind (sizeOf_set ha da fa ?_)
  refine wpAny_bind (sizeOf_set hb db fb ?_)
  by_cases hz : n = m
  · rw [if_neg (by rw [na, nb, hz]; simp)]
    refine wpAny_bind (wpAny_bind (wpAny_bind (wpAny_isInstance (T := "set") (b := false) ⟨oa, ha, xa.1⟩ (by rw [isSubtype_type]; kernel_rfl) ?_)))
    refine wpAny_pure ?_
    simp only [Bool.false_eq_true, if_false]
    refine subset_of RA' RB' hz fun c hc => ?_
    exact wpAny_pure ⟨_, rfl, (fun z => nomatch z), q c (hc.trans ⟨fun z => ⟨hz, z⟩, fun z => z.2⟩)⟩
  · rw [if_pos (by rw [na, nb]; simpa using hz)]
    refine wpAny_bind (wpAny_pure ?_)
    exact wpAny_pure ⟨_, rfl, (fun z => nomatch z), q false ⟨fun z => (nomatch z), fun z => absurd z.1 hz⟩⟩
end
end Lm
set_option Elab.async false
set_option linter.all false
set_option maxRecDepth 100000
set_option maxHeartbeats 1000000
/-! a set of keys by a comprehension over one row -/
namespace Lm
open PySem PySem.Spec PyProof.Rows L2 PpSet
section
variable {X : Cx}
/-- sets of keys compared: c tells whether they have as many members, those of the first among those of the other -/
def rEqSets (P : Program) (w : World) : R2 := fun x y H Q => ∃ (a b : Addr) (S T : Key → Bool) (n m : Nat), x = .ref a ∧ y = .ref b ∧ H a = some (SetK P w a S n) ∧ H b = some (SetK P w b T m) ∧ ∀ c : Bool, (c = true ↔ n = m ∧ ∀ k, S k = true → T k = true) → Q (.bl c) H
theorem op_eqSets (hu : X.A.units < cLine) : OpR X (compareOp .Eq) (rEqSets X.prog X.w) := by
  intro pins s σ H x y v u Q I rx ry h
  obtain ⟨a, b, S, T, n, m, rfl, rfl, ha, hb, q⟩ := h
  obtain rfl : v = Value.ref a := rx
  obtain rfl : u = Value.ref b := ry
  exact sets_eq (setK_get I ha) (setK_get I hb) hu fun c hc => ⟨.bl c, H, I, rfl, q c hc⟩
/-- one turn is told by Nx, D the set -/
def kTurn (P : Program) (w : World) (D : Addr) (g : TG) (tt : TT) (te : TE) (vs : List Nat) (Nx : Hp → Prop) (σ : L2.St) (x : V) (Hx : Hp) : Prop :=
  g x (wipe σ vs) Hx fun σt Ht => wipe σt vs = wipe σ vs ∧ tt σt Ht fun b Hb =>
    if b = true then te σt Hb fun y He => ∃ (k : Key) (S : Key → Bool) (n : Nat), y = kV k ∧ He D = some (SetK P w D S n) ∧ n + 1 < scanBound ∧ Nx (upd He D (SetK P w D (fun j => S j || decide (j = k)) (if S k = true then n else n + 1))) else Nx Hb
/-- {elt for target in iter if ..} -/
def tScK (P : Program) (w : World) (wi : TI) (g : TG) (tt : TT) (te : TE) (vs : List Nat) : TE := fun σ H Q => wi σ H fun J H1 => ∀ D, H1 D = none →
  ∃ M : Nat → Nat → Hp → Prop, (∃ m, M 0 m (upd H1 D (SetK P w D (fun _ => false) 0))) ∧ ∀ i m Hi, M i m Hi → (J.stop i Hi ∧ Q (.ref D) Hi) ∨
    (J.go i Hi ∧ ∃ Nx : Hp → Prop, (∀ Hn, Nx Hn → ∃ m', m' < m ∧ M (i + 1) m' Hn) ∧ ∀ x Hx, J.yld i Hi x Hx → kTurn P w D g tt te vs Nx σ x Hx)
theorem newK {h : Heap} (P : Program) (w : World) : (h.push { cls := .type "set", dict := none, data := .set #[] 0 (.fresh 0 0 (!w.params.followText "set-order")) }).SetOf (mixKind P w) h.objs.size (fun _ => false) 0 := by
  refine ⟨_, #[], 0, _, Heap.get?_push_size _ rfl, ⟨rfl, rfl, rfl⟩, rfl, ?_, ?_, by decide, by rfl, rfl⟩
  · intro e he
    simp at he
  · intro k
    simp
/-- from the set's making on, in the state S -/
theorem scK_run {pins : List (Addr × Obj)} {σ : L2.St} {Hc : Hp} {S : Shared} {Q : VK} {it D : Addr} {fp : List Addr} {tn : Nat → Heap → Prop} {J : It} {elt tg iter : Expr} {ifs : List Expr} {sc : Scope} {own : List (PySem.Str × Nat)} {pos : Pos} {g : TG} {tt : TT} {te : TE} {M : Nat → Nat → Hp → Prop} {m0 : Nat}
    (calm : X.calm = true) (nd : X.N.Nodup) (bo : BlkOk X.N X.env.scope sc own) (I : Inv X pins σ Hc S) (T : Turn X.prog X.w X.K tg J fp it tn) (st : tn 0 S.heap) (fc : ∀ b ∈ fp, FpOk X pins Hc b ∧ b < S.heap.objs.size) (w0 : M 0 m0 Hc)
    (turn : ∀ i m Hi, M i m Hi → (J.stop i Hi ∧ Q (.ref D) Hi) ∨ (J.go i Hi ∧ ∃ Nx : Hp → Prop, (∀ Hn, Nx Hn → ∃ m', m' < m ∧ M (i + 1) m' Hn) ∧ ∀ x Hx, J.yld i Hi x Hx → kTurn X.prog X.w D g tt te (own.map (·.2)) Nx σ x Hx))
    (hg : ∀ (s : Shared) (H : Hp) (C : Addr) (cl : List (PySem.Str × Addr)) (fp : List Addr), PG (X.blk s H sc (compEnvC sc cl C X.env) fp) tg g)
    (ht : ∀ (s : Shared) (H : Hp) (C : Addr) (cl : List (PySem.Str × Addr)) (fp : List Addr), PTs (X.blk s H sc (compEnvC sc cl C X.env) fp) ifs tt)
    (he : ∀ (s : Shared) (H : Hp) (C : Addr) (cl : List (PySem.Str × Addr)) (fp : List Addr), PE (X.blk s H sc (compEnvC sc cl C X.env) fp) elt te) :
    codeAny (model X.prog X.w) X.A (.compStart (.SetComp elt [⟨tg, iter, ifs, 0⟩] sc pos) 0 (.ref it) (.ref D) (compEnvC sc (cellsFrom (S.heap.objs.size + 1) sc.names (cloFrom X.env.cells sc.names [])) S.heap.objs.size X.env)) (compPost (model X.prog X.w) X.A X.xe none (EP X pins σ Q) (.ref D) S.heap.objs.size)
      { S with heap := pushCells (S.heap.push { cls := .type "dict", data := .dict #[] }) sc.names } := by
  have K0 := block_start I bo nd fc
  have pg := hg S Hc S.heap.objs.size (cellsFrom (S.heap.objs.size + 1) sc.names (cloFrom X.env.cells sc.names [])) fp
  have pt := ht S Hc S.heap.objs.size (cellsFrom (S.heap.objs.size + 1) sc.names (cloFrom X.env.cells sc.names [])) fp
  have pe := he S Hc S.heap.objs.size (cellsFrom (S.heap.objs.size + 1) sc.names (cloFrom X.env.cells sc.names [])) fp
  have place : (compEnvC sc (cellsFrom (S.heap.objs.size + 1) sc.names (cloFrom X.env.cells sc.names [])) S.heap.objs.size X.env).locals = S.heap.objs.size := rfl
  have st0 : tn 0 (pushCells (S.heap.push { cls := .type "dict", data := .dict #[] }) sc.names) := T.keep _ _ _ st fun b _ o e => pushCells_keeps _ _ _ _ (Heap.get?_push_of_some _ e)
  generalize compEnvC sc (cellsFrom (S.heap.objs.size + 1) sc.names (cloFrom X.env.cells sc.names [])) S.heap.objs.size X.env = ce at K0 pg pt pe place ⊢
  have free0 : ∀ b ∈ fp, Hc b = none := fun b hb => (fc b hb).1.1
  have kept : ∀ {σ' : L2.St} {H' : Hp} {z : Shared}, Inv (X.blk S Hc sc ce fp) [] σ' H' z → (∀ b ∈ fp, H' b = none) → ∀ b ∈ fp, FpOk (X.blk S Hc sc ce fp) [] H' b := fun {σ' H' z} L n b hb => by
    have e1 := L.ok.exf b hb
    exact ⟨n b hb, e1.1, L.ok.exfs b hb, .inl hb, fun x c e => e1.2 x c e, fun y hy => absurd (show y ∈ ([] : List (Addr × Obj)) ++ [] from hy) (by simp)⟩
  have loop : codeAny (model X.prog X.w) X.A (.compLoop (.SetComp elt [⟨tg, iter, ifs, 0⟩] sc pos) 0 (.ref it) (.ref D) ce) (compPost (model X.prog X.w) X.A X.xe none (EP X pins σ Q) (.ref D) S.heap.objs.size)
      { S with heap := pushCells (S.heap.push { cls := .type "dict", data := .dict #[] }) sc.names } := by
    refine compLoopS_any (fun n z => ∃ i Hi, Inv (X.blk S Hc sc ce fp) [] (wipe σ (own.map (·.2))) Hi z ∧ tn i z.heap ∧ (∀ b ∈ fp, Hi b = none) ∧ M i n Hi) ?_ m0 ⟨0, Hc, K0, st0, free0, w0⟩
    rintro n z ⟨i, Hi, Iz, sz, nz, wz⟩
    rcases turn i n Hi wz with ⟨stop, last⟩ | ⟨go, Nx, less, step⟩
    · refine thnF (T.done (X.blk S Hc sc ce fp) rfl rfl rfl calm i [] z _ Hi (fun _ _ => False) Iz (kept Iz nz) sz stop) fun r y ⟨rn, Iy⟩ => ?_
      subst rn
      have out : Inv X pins σ Hi y := I.call' (ch := fp) Iy.os Iy.base Iy.hok Iy.bare fun b hb => ⟨(fc b hb).1.2.2.2.1, (fc b hb).1.2.1, (fc b hb).1.2.2.2.2.1, (fc b hb).1.2.2.2.2.2⟩
      have nc : Hi ce.locals = none := Iy.free
      obtain ⟨m, hn, _⟩ := Iy.loc
      have hn : y.heap.Ns ce.locals m := hn
      rw [place] at nc hn
      obtain ⟨f0, f1, _, f3, f4, f5⟩ := I.fpOk (H' := Hi) (Nat.le_refl _) nc
      exact ⟨m, hn, fun h' sb => ⟨.ref D, Hi, out.turned (t' := y.toks) (fun b o hb e => (sb.2 b hb).trans e) f0 f1 f3 f4 f5, rfl, last⟩⟩
    · refine thnF (T.item (X.blk S Hc sc ce fp) rfl rfl rfl calm i [] z _ Hi (fun _ _ => False) Iz (kept Iz nz) sz go) fun r y ⟨u, ru, hy⟩ => ?_
      subst ru
      refine thnF hy fun _ y1 ⟨x, Hx, I1, rx, yx, s1, n1⟩ => ?_
      have I1p := I1.pinned (kept I1 n1) (T.obj _ _ s1)
      refine thnF (pg.run _ y1 _ Hx x u _ I1p rx (step x Hx yx)) fun _ y2 ⟨σ2, H2, I2, e2, q2⟩ => ?_
      refine thnF (pt.run _ y2 σ2 H2 _ I2 q2) fun b y3 ⟨H3, I3, q3⟩ => ?_
      have again : ∀ {y4 : Shared} {H4 : Hp}, Inv (X.blk S Hc sc ce fp) ([] ++ pinsAt fp y1.heap) σ2 H4 y4 → Nx H4 → ∃ m, m < n ∧ ∃ i Hi, Inv (X.blk S Hc sc ce fp) [] (wipe σ (own.map (·.2))) Hi y4 ∧ tn i y4.heap ∧ (∀ b ∈ fp, Hi b = none) ∧ M i m Hi := fun {y4 H4} I4 nx => by
        obtain ⟨m', lt, w'⟩ := less H4 nx
        have stay : ∀ b ∈ fp, ∀ o, y1.heap.get? b = some o → y4.heap.get? b = some o ∧ H4 b = none := fun b hb o e => by
          have p := I4.pin (b, o) (List.mem_append_right _ (List.mem_append_right _ (mem_pinsAt hb e)))
          exact ⟨p.1, p.2.1⟩
        refine ⟨m', lt, i + 1, H4, (I4.unpinned (pins := [])).weak (by rw [← e2, wipe_length]) (fun j v e => ?_), T.keep _ _ _ s1 fun b hb o e => (stay b hb o e).1, fun b hb => ?_, w'⟩
        · rw [← e2] at e
          exact (wipe_some e).1
        · obtain ⟨o, e, _⟩ := T.obj _ _ s1 b hb
          exact (stay b hb o e).2
      cases b with
      | false =>
        simp only [Bool.false_eq_true, if_false] at q3 ⊢
        exact again I3 q3
      | true =>
        simp only [if_true] at q3 ⊢
        refine thnF (pe.run _ y3 σ2 H3 _ I3 q3) fun v y4 ⟨yv, H4, I4, r4, k, S0, n0, ey, hD, room, nx⟩ => ?_
        subst ey
        refine wpAny_mono (mt_saddK (X := X.blk S Hc sc ce fp) _ y4 σ2 H4 (.ref D) [kV k] (.ref D) [v] (fun _ H5 => Nx H5) I4 rfl (.cons r4 .nil) ⟨D, k, S0, n0, rfl, rfl, hD, room, nx⟩) (fun _ y5 ⟨_, H5, I5, _, nx5⟩ => again I5 nx5) fun _ _ z => False.elim z
  exact codeAny_compStart_set loop (T.self X.A 0 _ _ _ st0 loop)
/-- the comprehension, as a value -/
theorem pe_scK {elt tg iter : Expr} {ifs : List Expr} {sc : Scope} {own : List (PySem.Str × Nat)} {pos : Pos} {wi : TI} {g : TG} {tt : TT} {te : TE} (calm : X.calm = true) (nd : X.N.Nodup) (hi : PI X tg iter wi) (bo : BlkOk X.N X.env.scope sc own)
    (hg : ∀ (s : Shared) (H : Hp) (C : Addr) (cl : List (PySem.Str × Addr)) (fp : List Addr), PG (X.blk s H sc (compEnvC sc cl C X.env) fp) tg g)
    (ht : ∀ (s : Shared) (H : Hp) (C : Addr) (cl : List (PySem.Str × Addr)) (fp : List Addr), PTs (X.blk s H sc (compEnvC sc cl C X.env) fp) ifs tt)
    (he : ∀ (s : Shared) (H : Hp) (C : Addr) (cl : List (PySem.Str × Addr)) (fp : List Addr), PE (X.blk s H sc (compEnvC sc cl C X.env) fp) elt te)
    (fold : ∀ x, foldedSetIterable iter X.env x = pure x := by intro _; rfl) :
    PE X (.SetComp elt [⟨tg, iter, ifs, 0⟩] sc pos) (tScK X.prog X.w wi g tt te (own.map (·.2))) := by
  refine ⟨fun pins s σ H Q I h => ?_⟩
  rw [eval_SetComp]
  have caught : ∀ y ∈ sc.names, y.2 = .free → ∃ c, X.env.cells.lookup y.1 = some c := fun y hy e => (bo.free y hy e).elim (fun z => I.ok.has _ (.inl z)) fun z => I.ok.has _ (.inr z)
  refine wpAny_comprehension_free rfl fold (closure_ok caught) bo.kind (fun y hy e => by rw [bo.uniq y hy, e]) (thn (hi.run pins s σ H _ I h) fun _ sa hx => thn hx fun _ sb h2 => ?_)
  obtain ⟨it, fp, tn, J, Hb, rfl, Ib, T, stb, fb, q⟩ := h2
  refine newSet_ok (newEnv_comp ?_)
  -- the set's place D, the state sc with the set
  have nD : Hb sb.heap.objs.size = none := Ib.hok.fresh (Nat.le_refl _)
  obtain ⟨M, ⟨m0, w0⟩, turn⟩ := q sb.heap.objs.size nD
  have setAt := newK (h := sb.heap) X.prog X.w
  have grown : ∀ b o, sb.heap.get? b = some o → (sb.heap.push { cls := .type "set", dict := none, data := .set #[] 0 (.fresh 0 0 (!X.w.params.followText "set-order")) }).get? b = some o := fun b o e => Heap.get?_push_of_some _ e
  have Ic := Ib.laid (t' := sb.toks) grown (Nat.le_refl _) (setK_new setAt)
  have low : ∀ b ∈ fp, b < sb.heap.objs.size := fun b hb => (T.obj _ _ stb b hb).elim fun o e => Heap.lt_size e.1
  have fc : ∀ b ∈ fp, FpOk X pins (upd Hb sb.heap.objs.size (SetK X.prog X.w sb.heap.objs.size (fun _ => false) 0)) b ∧ b < (sb.heap.push { cls := .type "set", dict := none, data := .set #[] 0 (.fresh 0 0 (!X.w.params.followText "set-order")) }).objs.size := fun b hb =>
    ⟨⟨by rw [upd_ne (Nat.ne_of_lt (low b hb))]; exact (fb b hb).1, (fb b hb).2⟩, by rw [Heap.size_push]; exact Nat.lt_succ_of_lt (low b hb)⟩
  have stc := T.keep _ _ _ stb fun b _ o e => grown b o e
  generalize sb.heap.objs.size = D at nD w0 turn setAt Ic fc ⊢
  generalize upd Hb D (SetK X.prog X.w D (fun _ => false) 0) = Hc at w0 Ic fc ⊢
  generalize (sb.heap.push { cls := .type "set", dict := none, data := .set #[] 0 (.fresh 0 0 (!X.w.params.followText "set-order")) }) = hc at setAt Ic fc stc grown ⊢
  exact scK_run calm nd bo Ic T stc fc w0 turn hg ht he
end
theorem nodup_le : ∀ {ks ls : List Str}, ks.Nodup → (∀ y ∈ ks, y ∈ ls) → ks.length ≤ ls.length
  | [], ls, _, _ => Nat.zero_le _
  | k :: ks, ls, nd, sub => by
    have hk := sub k List.mem_cons_self
    have nd' := List.nodup_cons.mp nd
    have l := nodup_le (ks := ks) (ls := ls.erase k) nd'.2 fun x hx => (List.mem_erase_of_ne (fun (q : x = k) => nd'.1 (q ▸ hx))).mpr (sub x (List.mem_cons_of_mem _ hx))
    rw [List.length_erase_of_mem hk] at l
    have := List.length_pos_of_mem hk
    rw [List.length_cons]
    omega
theorem pigeon : ∀ {ks ls : List Str}, ks.Nodup → (∀ y ∈ ks, y ∈ ls) → ks.length = ls.length → ∀ y ∈ ls, y ∈ ks
  | [], ls, _, _, e, y, h => by rw [List.eq_nil_of_length_eq_zero e.symm] at h; exact h
  | k :: ks, ls, nd, sub, e, y, h => by
    have hk := sub k List.mem_cons_self
    have nd' := List.nodup_cons.mp nd
    by_cases z : y = k
    · rw [z]
      exact List.mem_cons_self
    · refine List.mem_cons_of_mem _ (pigeon (ks := ks) (ls := ls.erase k) nd'.2 (fun x hx => ?_) ?_ y ?_)
      · exact (List.mem_erase_of_ne (fun (q : x = k) => nd'.1 (q ▸ hx))).mpr (sub x (List.mem_cons_of_mem _ hx))
      · rw [List.length_erase_of_mem hk, ← e, List.length_cons, Nat.add_sub_cancel]
      · exact (List.mem_erase_of_ne z).mpr h
/-- at D lies the set of the texts ys -/
def TxtSet (P : Program) (w : World) (H : Hp) (D : Addr) (ys : List Str) : Prop := ∃ (S : Key → Bool) (n : Nat) (ks : List Str), H D = some (SetK P w D S n) ∧ (∀ k : Key, S k = true ↔ ∃ y ∈ ks, k = Sum.inr y) ∧ ks.Nodup ∧ ks.length = n ∧ ∀ y, y ∈ ks ↔ y ∈ ys
theorem txtSet_same {P : Program} {w : World} {H H' : Hp} {D : Addr} {ys : List Str} (e : Same H H') (h : TxtSet P w H D ys) : TxtSet P w H' D ys := by
  obtain ⟨S, n, ks, h1, h2⟩ := h
  exact ⟨S, n, ks, e _ _ h1, h2⟩
/-- as many, and those of the one among those of the other: the same -/
theorem txtSet_eq {P : Program} {w : World} {H : Hp} {a b : Addr} {ys zs : List Str} {Q : VK} (ha : TxtSet P w H a ys) (hb : TxtSet P w H b zs) (q : ∀ c : Bool, (c = true ↔ ∀ y, y ∈ ys ↔ y ∈ zs) → Q (.bl c) H) : rEqSets P w (.ref a) (.ref b) H Q := by
  obtain ⟨S, n, ks, h1, h2, h3, h4, h5⟩ := ha
  obtain ⟨T, m, ls, k1, k2, k3, k4, k5⟩ := hb
  refine ⟨a, b, S, T, n, m, rfl, rfl, h1, k1, fun c hc => q c (hc.trans ⟨fun ⟨e, sub⟩ => ?_, fun same => ?_⟩)⟩
  · have sub' : ∀ y ∈ ks, y ∈ ls := fun y hy => by
      obtain ⟨y', hy', e'⟩ := (k2 _).1 (sub (Sum.inr y) ((h2 _).2 ⟨y, hy, rfl⟩))
      cases e'
      exact hy'
    have back := pigeon h3 sub' (h4.trans (e.trans k4.symm))
    exact fun y => (h5 y).symm.trans ((⟨sub' y, back y⟩ : y ∈ ks ↔ y ∈ ls).trans (k5 y))
  · have iff : ∀ y, y ∈ ks ↔ y ∈ ls := fun y => (h5 y).trans ((same y).trans (k5 y).symm)
    refine ⟨?_, fun k hk => ?_⟩
    · rw [← h4, ← k4]
      have l1 := nodup_le h3 fun y hy => (iff y).1 hy
      have l2 := nodup_le k3 fun y hy => (iff y).2 hy
      omega
    · obtain ⟨y, hy, e⟩ := (h2 k).1 hk
      exact (k2 k).2 ⟨y, (iff y).1 hy, e⟩
/-- {e for x in l}, l a list, e's values texts; nothing that stood is changed -/
theorem sc_texts {P : Program} {w : World} {K : PySem.W.Frag} {a : Addr} {xs : List V} {ys : List Str} {te : TE} {j : Nat} {σ : L2.St} {H1 : Hp} {D : Addr} {Qd : Hp → Prop} (hx : SqL K H1 a xs) (hD : H1 D = none) (hl : ys.length = xs.length) (hz : ys.length ≤ 1000)
    (el : ∀ (i : Nat) (x : V) (y : Str) (H' : Hp), xs[i]? = some x → ys[i]? = some y → Same H1 H' → ∀ Q : VK, (∀ H'', Same H' H'' → Q (.str y) H'') → te ((wipe σ [j]).set j (some x)) H' Q)
    (hd : ∀ H', Same H1 H' → TxtSet P w H' D ys → Qd H') :
    ∃ M : Nat → Nat → Hp → Prop, (∃ m, M 0 m (upd H1 D (SetK P w D (fun _ => false) 0))) ∧ ∀ i m Hi, M i m Hi → ((Itl K a).stop i Hi ∧ Qd Hi) ∨
      ((Itl K a).go i Hi ∧ ∃ Nx : Hp → Prop, (∀ Hn, Nx Hn → ∃ m', m' < m ∧ M (i + 1) m' Hn) ∧ ∀ x Hx, (Itl K a).yld i Hi x Hx → kTurn P w D (gName j) tYes te [j] Nx σ x Hx) := by
  refine ⟨fun i m H => m = xs.length - i ∧ i ≤ xs.length ∧ Same H1 H ∧ TxtSet P w H D (ys.take i), ⟨xs.length, by simp, Nat.zero_le _, same_new hD _, fun _ => false, 0, [], upd_same, (fun k => by simp), List.nodup_nil, rfl, (fun y => by simp)⟩, ?_⟩
  rintro i m H ⟨rfl, hi, e1, ts⟩
  by_cases lt : i < xs.length
  · have hxi : xs[i]? = some xs[i] := List.getElem?_eq_getElem lt
    have hyi : ys[i]? = some (ys[i]'(by omega)) := List.getElem?_eq_getElem _
    refine .inr ⟨⟨xs, xs[i], e1.seq hx, hxi⟩, fun H => Same H1 H ∧ TxtSet P w H D (ys.take (i + 1)), fun Hn p => ⟨xs.length - (i + 1), by omega, rfl, lt, p.1, p.2⟩, fun x Hx y => ?_⟩
    obtain ⟨eH, y⟩ := y
    subst eH
    have ex : x = xs[i] := Option.some.inj ((y xs (e1.seq hx)).symm.trans hxi)
    subst ex
    refine ⟨wipe1 _ _ _, ?_⟩
    show te ((wipe σ [j]).set j (some xs[i])) _ _
    refine el i _ _ _ hxi hyi e1 _ fun H'' e2 => ?_
    obtain ⟨S, n, ks, h1, h2, h3, h4, h5⟩ := ts
    have len : ks.length ≤ ys.length := nodup_le h3 fun z hz => List.mem_of_mem_take ((h5 z).1 hz)
    refine ⟨Sum.inr (ys[i]'(by omega)), S, n, rfl, e2 _ _ h1, ?_, same_upd (e1.trans e2) hD, ?_⟩
    · show n + 1 < 4096
      omega
    · rw [List.take_succ, hyi]
      generalize ys[i]'(by omega) = t at *
      by_cases q : S (Sum.inr t) = true
      · rw [if_pos q]
        obtain ⟨t', ht', et⟩ := (h2 _).1 q
        cases et
        refine ⟨_, n, ks, upd_same, fun k => ?_, h3, h4, fun z => ?_⟩
        · rw [Bool.or_eq_true, decide_eq_true_eq, h2 k]
          exact ⟨fun z => z.elim id fun z => ⟨t, ht', z⟩, .inl⟩
        · rw [h5 z, List.mem_append]
          refine ⟨.inl, fun h => h.elim id fun h => ?_⟩
          have : z = t := by simpa using h
          rw [this]
          exact (h5 t).1 ht'
      · rw [if_neg q]
        have nin : ¬ t ∈ ks := fun h => q ((h2 _).2 ⟨t, h, rfl⟩)
        refine ⟨_, n + 1, t :: ks, upd_same, fun k => ?_, List.nodup_cons.mpr ⟨nin, h3⟩, by rw [List.length_cons, h4], fun z => ?_⟩
        · rw [Bool.or_eq_true, decide_eq_true_eq, h2 k]
          constructor
          · rintro (⟨y, hy, e⟩ | e)
            · exact ⟨y, List.mem_cons_of_mem _ hy, e⟩
            · exact ⟨t, List.mem_cons_self, e⟩
          · rintro ⟨y, hy, e⟩
            rcases List.mem_cons.mp hy with z | z
            · exact .inr (by rw [e, z])
            · exact .inl ⟨y, z, e⟩
        · rw [List.mem_cons, h5 z, List.mem_append]
          constructor
          · rintro (h | h)
            · exact .inr (by rw [h]; simp)
            · exact .inl h
          · rintro (h | h)
            · exact .inr h
            · exact .inl (by simpa using h)
  · have e : i = xs.length := by omega
    subst e
    rw [← hl, List.take_length] at ts
    exact .inl ⟨⟨xs, e1.seq hx, Nat.le_refl _⟩, hd H e1 ts⟩
end Lm
set_option Elab.async false
set_option linter.all false
set_option maxRecDepth 100000
set_option maxHeartbeats 1000000
/-! sets of texts whose table may be walked: made by a comprehension, sorted -/
namespace Lm
open PySem PySem.Spec PyProof.Rows L2 PpSet
def keyS (e : Int × Value) : Str := match e.2 with | .str k _ => k | _ => Str.empty
def GoodS (w : World) (e : Int × Value) : Prop := ∃ k tk, e.2 = Value.str k tk ∧ e.1 = hashStr w k
/-- the set of the texts ks at a -/
def SetS (w : World) (h : Heap) (a : Addr) (ks : List Str) : Prop :=
  ∃ o es ep t, h.get? a = some o ∧ o.ExactSet ∧ o.data = .set es ep t ∧ (∀ e ∈ es.toList, GoodS w e) ∧ (es.toList.map keyS).Perm ks ∧ ks.Nodup ∧
    es.size < scanBound ∧ t.fits es.size = true ∧ Ris t.place.toList ∧ (w.params.followText "set-order" = true ∨ t.led = true)
section
variable {P : Program} {w : World} {h h' : Heap} {a : Addr} {ks : List Str}
theorem SetS.at (R : SetS w h a ks) (k : ∀ o, h.get? a = some o → h'.get? a = some o) : SetS w h' a ks := by
  obtain ⟨o, es, ep, t, ho, r⟩ := R
  exact ⟨o, es, ep, t, k o ho, r⟩
theorem goodS_elems {l : List (Int × Value)} (g : ∀ e ∈ l, GoodS w e) : ElemsOf (PySem.strKind P w) l := fun e he => by
  obtain ⟨k, tk, h1, h2⟩ := g e he
  exact ⟨⟨k, by rw [h1]; exact PySem.strKind_is P w k tk, h2⟩, by rw [h1] <;> rfl⟩
theorem goodS_is {e : Int × Value} (g : GoodS w e) (k : Str) : (PySem.strKind P w).is k e.2 = true ↔ keyS e = k := by
  obtain ⟨k0, tk, h1, _⟩ := g
  unfold keyS
  rw [h1]
  show (Value.isStrOf k (.str k0 tk) = true) ↔ k0 = k
  show ((k0 == k) = true) ↔ k0 = k
  exact beq_iff_eq
theorem goodS_mem {l : List (Int × Value)} (g : ∀ e ∈ l, GoodS w e) (k : Str) : k ∈ l.map keyS ↔ ∃ e ∈ l, (PySem.strKind P w).is k e.2 = true := by
  rw [List.mem_map]
  constructor
  · rintro ⟨e, he, q⟩
    exact ⟨e, he, (goodS_is (g e he) k).2 q⟩
  · rintro ⟨e, he, q⟩
    exact ⟨e, he, (goodS_is (g e he) k).1 q⟩
end
section
variable {P : Program} {w : World} {A : Around} {E : Value → Shared → Prop} {s : Shared} {a : Addr} {ks : List Str}
theorem setS_add_tail {g : Bool → Sem Unit} (hg : ∀ (b : Bool) (s₁ : Shared) (Q' : Unit → Shared → Prop), Q' () s₁ → wpAny (model P w) A (g b) Q' E s₁)
    {o : Obj} {es : Array (Int × Value)} {ep : Nat} {t : SetTable} (ho : s.heap.get? a = some o) (hex : o.ExactSet) (hd : o.data = .set es ep t)
    {es1 : Array (Int × Value)} {t2 : SetTable} {ks' : List Str} (g1 : ∀ e ∈ es1.toList, GoodS w e) (p1 : (es1.toList.map keyS).Perm ks') (nd1 : ks'.Nodup)
    (hb1 : es1.size < scanBound) (hf2 : t2.fits es1.size = true) (hr : Ris t2.place.toList) (hl : w.params.followText "set-order" = true ∨ t2.led = true) {wasDummy : Bool} {R : Option Bool → Shared → Prop}
    (hR : ∀ h', Heap.SameBut a s.heap h' → SetS w h' a ks' → R (some true) { s with heap := h' }) :
    wpAny (model P w) A (do
        storeSet a es1 t2
        if (!wasDummy && t2.tooFull) = true then do
            g (relayAll t2 es1 (SetTable.grown es1.size)).2.2
            storeSet a (relayAll t2 es1 (SetTable.grown es1.size)).1 (relayAll t2 es1 (SetTable.grown es1.size)).2.1
            pure (some true)
          else pure (some true)) R E s := by
  refine wpAny_bind (wpAny_storeSet_of ho hd ?_ (fits_of_scanBound hb1))
  have ho1 := store_at (es' := es1) (t' := t2) ho hd
  have sb1 := Heap.SameBut.update s.heap a (Obj.putSet es1 t2)
  split
  · have pm := relayAll_perm t2 es1 (SetTable.grown es1.size)
    have hf3 := relayAll_fits t2 es1 (SetTable.grown es1.size)
    have hr3 := relayAll_ris t2 es1 (SetTable.grown es1.size)
    have hl3 := relayAll_led t2 es1 (SetTable.grown es1.size)
    generalize relayAll t2 es1 (SetTable.grown es1.size) = Z at pm hf3 hr3 hl3 ⊢
    obtain ⟨es2, t3, gave⟩ := Z
    dsimp only at pm hf3 hr3 hl3 ⊢
    have hsz : es2.size = es1.size := by rw [← Array.length_toList, pm.length_eq, Array.length_toList]
    have hb2 : es2.size < scanBound := by rw [hsz]; exact hb1
    refine wpAny_bind (hg _ _ _ ?_)
    refine wpAny_bind (wpAny_storeSet_of ho1 rfl ?_ (fits_of_scanBound hb2))
    have ho2 := store_at (es' := es2) (t' := t3) ho1 rfl
    refine wpAny_pure (hR _ (sb1.trans (Heap.SameBut.update _ a _)) ?_)
    exact ⟨_, es2, _, t3, ho2, hex, rfl, fun e he => g1 e (pm.mem_iff.mp he), (pm.map keyS).trans p1, nd1, hb2, hf3, hr3, hl.imp id fun z => by rw [hl3]; exact z⟩
  · exact wpAny_pure (hR _ sb1 ⟨_, es1, _, t2, ho1, hex, rfl, g1, p1, nd1, hb1, hf2, hr, hl⟩)
theorem setS_add_hashed {k : Str} {tk : Tok} {Q : Bool → Shared → Prop} (R : SetS w s.heap a ks) (room : ks.length + 1 < scanBound)
    (hQ : ∀ h', Heap.SameBut a s.heap h' → SetS w h' a (if k ∈ ks then ks else ks ++ [k]) → Q (!decide (k ∈ ks)) { s with heap := h' }) :
    wpAny (model P w) A (setAddHashed a (.str k tk) ((PySem.strKind P w).hash k)) Q E s := by
  obtain ⟨o, es, ep, t, ho, hex, hd, g, pm0, nd, hb, hf, hr, hl⟩ := R
  have hkey : (PySem.strKind P w).is k (.str k tk) = true := PySem.strKind_is P w k tk
  have hsc : (Value.str k tk).scannable = true := rfl
  have hel : ElemsOf (PySem.strKind P w) es.toList := goodS_elems g
  have hsz0 : es.size = ks.length := by rw [← Array.length_toList, ← List.length_map (f := keyS), pm0.length_eq]
  unfold setAddHashed setAddHashedIn
  refine wpAny_holding (wpAny_bind (wpAny_setState_of ho hd hf ?_))
  dsimp only
  rw [byScan_of hsc hb hel]
  simp only [↓reduceIte]
  unfold setAddByScan
  refine wpAny_bind ?_
  refine wpAny_bind (wpAny_rule ?_)
  refine wpAny_bind (wpAny_setScan_of hkey ho hd hf hel ?_)
  cases hfi : List.findIdx? (fun e => (PySem.strKind P w).is k e.2) es.toList with
  | some j =>
    dsimp only
    obtain ⟨hj, pj, _⟩ := List.findIdx?_eq_some_iff_getElem.mp hfi
    have hk : k ∈ ks := pm0.mem_iff.mp ((goodS_mem (P := P) g k).2 ⟨es.toList[j], List.getElem_mem hj, pj⟩)
    refine wpAny_pure (wpAny_pure ?_)
    have q := hQ s.heap (Heap.SameBut.refl a s.heap) ⟨o, es, ep, t, ho, hex, hd, g, by rw [if_pos hk]; exact pm0, by rw [if_pos hk]; exact nd, hb, hf, hr, hl⟩
    rw [decide_eq_true hk] at q
    exact q
  | none =>
    dsimp only
    have hnk : k ∉ ks := fun z => by
      obtain ⟨e, he, q⟩ := (goodS_mem (P := P) g k).1 (pm0.mem_iff.mpr z)
      have c := List.findIdx?_eq_none_iff.mp hfi e he
      rw [q] at c
      cases c
    have hgw : ∀ (b : Bool) {s₁ : Shared} {Q' : Unit → Shared → Prop}, Q' () s₁ → wpAny (model P w) A (match b with | true => rule "set.scan.the-table-gave-way" | false => pure ()) Q' E s₁ :=
      fun b s₁ Q' q => by cases b <;> first | exact wpAny_pure q | exact wpAny_rule q
    have pm := layNew_perm t es ((PySem.strKind P w).hash k) (.str k tk)
    have hf1 := layNew_fits t es ((PySem.strKind P w).hash k) (.str k tk)
    have hr1 := layNew_ris t es ((PySem.strKind P w).hash k) (.str k tk) hr
    have hl1 := layNew_led t es ((PySem.strKind P w).hash k) (.str k tk)
    generalize layNew t es ((PySem.strKind P w).hash k) (.str k tk) = Z at pm hf1 hr1 hl1 ⊢
    obtain ⟨es1, t1, wasDummy, gave⟩ := Z
    dsimp only at pm hf1 hr1 hl1 ⊢
    rw [Array.toList_push] at pm
    have pk : (es1.toList.map keyS).Perm (ks ++ [k]) := (pm.map keyS).trans (by
      rw [List.map_append]
      exact pm0.append_right _)
    have g1 : ∀ e ∈ es1.toList, GoodS w e := fun e he => by
      rcases List.mem_append.mp (pm.mem_iff.mp he) with z | z
      · exact g e z
      · rw [List.mem_singleton.mp z]; exact ⟨k, tk, rfl, rfl⟩
    have nd1 : (ks ++ [k]).Nodup := by
      rw [List.nodup_append]
      refine ⟨nd, by simp, fun x hx y hy e => ?_⟩
      rw [List.mem_singleton.mp hy] at e
      exact hnk (e ▸ hx)
    have hsz : es1.size = ks.length + 1 := by rw [← Array.length_toList, ← List.length_map (f := keyS), pk.length_eq, List.length_append, List.length_singleton]
    have hb1 : es1.size < scanBound := by rw [hsz]; exact room
    have hled : w.params.followText "set-order" = true ∨ t1.led = true := hl.imp id fun z => by rw [hl1]; exact z
    have fin : ∀ h', Heap.SameBut a s.heap h' → SetS w h' a (ks ++ [k]) → Q true { s with heap := h' } := fun h' sb r => by
      have q := hQ h' sb (by rw [if_neg hnk]; exact r)
      rw [decide_eq_false hnk] at q
      exact q
    refine wpAny_bind (hgw _ ?_)
    split
    · refine wpAny_bind ?_
      rw [hashByValue_scannable 8 hsc]
      refine wpAny_pure ?_
      refine setS_add_tail ?_ ho hex hd g1 pk nd1 hb1 ?_ ?_ ?_ ?_
      · intro b s₁ Q' q; cases b <;> first | exact wpAny_pure q | exact wpAny_rule q
      · first | (split <;> first | exact hf1 | exact SetTable.fits_plain_off hf1) | exact hf1
      · first | (split <;> exact hr1) | exact hr1
      · first | (split <;> exact hled) | exact hled
      · intro h' sb r; dsimp only; exact wpAny_pure (fin h' sb r)
    · refine wpAny_bind (wpAny_pure ?_)
      simp only [↓reduceIte]
      refine setS_add_tail ?_ ho hex hd g1 pk nd1 hb1 hf1 hr1 hled ?_
      · intro b s₁ Q' q; cases b <;> first | exact wpAny_pure q | exact wpAny_rule q
      · intro h' sb r; dsimp only; exact wpAny_pure (fin h' sb r)
theorem SetS.typeIs (R : SetS w s.heap a ks) : s.TypeIs (.ref a) "set" := by
  obtain ⟨o, es, ep, t, ho, hex, _⟩ := R
  exact ⟨o, ho, hex.1⟩
/-- found.add(k) -/
theorem setS_add {k : Str} {tk : Tok} {Q : Value → Shared → Prop} (R : SetS w s.heap a ks) (room : ks.length + 1 < scanBound)
    (hQ : ∀ h', Heap.SameBut a s.heap h' → SetS w h' a (if k ∈ ks then ks else ks ++ [k]) → Q .none { s with heap := h', toks := s.toks + 1 }) :
    wpAny (model P w) A (call (.builtin "set.add") [.ref a, .str k tk]) Q E s := by
  refine wpAny_call_entry F.slot_set_add R.typeIs F.entry_set_add ?_ (F.args_set_add_2 _ _)
  unfold Builtin.«set.add» Builtin.Frozenset.oneOther
  simp only [List.isEmpty_nil, bind_assoc]
  unfold Builtin.Frozenset.addrOf setAdd
  refine wpAny_bind (wpAny_pure ?_)
  try dsimp only
  refine wpAny_bind (wpAny_pure ?_)
  try dsimp only
  refine wpAny_bind ?_
  refine wpAny_holding ?_
  refine wpAny_bind ((PySem.strKind P w).pyHash (PySem.strKind_is P w k tk) ?_)
  refine setS_add_hashed (s := { s with toks := s.toks + 1 }) R room fun h' sb r => ?_
  show wpAny _ _ (ret Value.none) _ _ _
  exact wpAny_pure ⟨_, rfl, hQ h' sb r⟩
theorem setS_fresh {h : Heap} (w : World) : SetS w (h.push { cls := .type "set", dict := none, data := .set #[] 0 (.fresh 0 0 (!w.params.followText "set-order")) }) h.objs.size [] := by
  obtain ⟨o, es, ep, t, ho, hex, hd, g, nd, hm, hb, hf, hn, hr, hl⟩ := setR_fresh (h := h) w
  have hz : es.toList = [] := by
    have : es.size = 0 := hn
    rw [← Array.length_toList] at this
    exact List.eq_nil_of_length_eq_zero this
  exact ⟨o, es, ep, t, ho, hex, hd, fun e he => (by rw [hz] at he; cases he), by rw [hz]; exact .nil, List.nodup_nil, hb, hf, hr, hl⟩
/-! ### sorted -/
theorem strs_of : ∀ (l : List Value), (∀ v ∈ l, ∃ k tk, v = Value.str k tk) → StrsAre l (l.map fun v => keyS (0, v))
  | [], _ => .nil
  | v :: l, h => by
    obtain ⟨k, tk, rfl⟩ := h v List.mem_cons_self
    exact .cons k tk (strs_of l fun u hu => h u (List.mem_cons_of_mem _ hu))
end
end Lm
set_option Elab.async false
set_option linter.all false
set_option maxRecDepth 100000
set_option maxHeartbeats 1000000
/-! sets of texts by a comprehension; sorted -/
namespace Lm
open PySem PySem.Spec PyProof.Rows L2 PpSet
def SetSO (w : World) (a : Addr) (ks : List Str) : HO := .ext fun h => SetS w h a ks
section
variable {X : Cx}
theorem setS_new {w : World} {P : Program} {H : Hp} {h : Heap} {a : Addr} {ks : List Str} (R : SetS w h a ks) : ObjOk P w H h a (SetSO w a ks) := by
  have ⟨o, _, _, _, ho, _⟩ := R
  exact ⟨R, ⟨o, ho⟩, fun h1 h2 p k => SetS.at p k⟩
theorem setS_get {pins : List (Addr × Obj)} {σ : L2.St} {H : Hp} {s : Shared} {a : Addr} {ks : List Str} (I : Inv X pins σ H s) (ha : H a = some (SetSO X.w a ks)) : SetS X.w s.heap a ks := (I.hok a _ ha).1
def rSAddS (w : World) : V → List V → Hp → VK → Prop := fun x xs H Q => ∃ (a : Addr) (k : Str) (ks : List Str), x = V.ref a ∧ xs = [.str k] ∧ H a = some (SetSO w a ks) ∧ ks.length + 1 < scanBound ∧ Q .non (upd H a (SetSO w a (if k ∈ ks then ks else ks ++ [k])))
theorem mt_saddS : MtR X "set.add" (rSAddS X.w) := by
  intro pins s σ H x xs v us Q I rx rxs h
  obtain ⟨a, k, ks, rfl, rfl, ha, room, q⟩ := h
  cases rx
  cases rxs with
  | cons ry rt =>
    cases rt
    obtain ⟨tk, rfl⟩ := ry
    refine setS_add (setS_get I ha) room fun h' sb new => ?_
    have he : ∃ u, h'.get? a = some u := by
      have ⟨o, _, _, _, ho, _⟩ := new
      exact ⟨o, ho⟩
    exact ⟨.non, upd H a (SetSO X.w a (if k ∈ ks then ks else ks ++ [k])), I.write (e := a) (t' := s.toks + 1) (by rw [ha]; trivial) (.inl rfl) (fun b u hb hu => (sb.2 b hb).trans hu) he (setS_new new), rfl, q⟩
/-- one turn is told by Nx, D the set -/
def sTurn (w : World) (D : Addr) (g : TG) (tt : TT) (te : TE) (vs : List Nat) (Nx : Hp → Prop) (σ : L2.St) (x : V) (Hx : Hp) : Prop :=
  g x (wipe σ vs) Hx fun σt Ht => wipe σt vs = wipe σ vs ∧ tt σt Ht fun b Hb =>
    if b = true then te σt Hb fun y He => ∃ (k : Str) (ks : List Str), y = .str k ∧ He D = some (SetSO w D ks) ∧ ks.length + 1 < scanBound ∧ Nx (upd He D (SetSO w D (if k ∈ ks then ks else ks ++ [k]))) else Nx Hb
/-- {elt for target in iter if ..} -/
def tScS (w : World) (wi : TI) (g : TG) (tt : TT) (te : TE) (vs : List Nat) : TE := fun σ H Q => wi σ H fun J H1 => ∀ D, H1 D = none →
  ∃ M : Nat → Nat → Hp → Prop, (∃ m, M 0 m (upd H1 D (SetSO w D []))) ∧ ∀ i m Hi, M i m Hi → (J.stop i Hi ∧ Q (.ref D) Hi) ∨
    (J.go i Hi ∧ ∃ Nx : Hp → Prop, (∀ Hn, Nx Hn → ∃ m', m' < m ∧ M (i + 1) m' Hn) ∧ ∀ x Hx, J.yld i Hi x Hx → sTurn w D g tt te vs Nx σ x Hx)
/-- from the set's making on, in the state S -/
theorem scS_run {pins : List (Addr × Obj)} {σ : L2.St} {Hc : Hp} {S : Shared} {Q : VK} {it D : Addr} {fp : List Addr} {tn : Nat → Heap → Prop} {J : It} {elt tg iter : Expr} {ifs : List Expr} {sc : Scope} {own : List (PySem.Str × Nat)} {pos : Pos} {g : TG} {tt : TT} {te : TE} {M : Nat → Nat → Hp → Prop} {m0 : Nat}
    (calm : X.calm = true) (nd : X.N.Nodup) (bo : BlkOk X.N X.env.scope sc own) (I : Inv X pins σ Hc S) (T : Turn X.prog X.w X.K tg J fp it tn) (st : tn 0 S.heap) (fc : ∀ b ∈ fp, FpOk X pins Hc b ∧ b < S.heap.objs.size) (w0 : M 0 m0 Hc)
    (turn : ∀ i m Hi, M i m Hi → (J.stop i Hi ∧ Q (.ref D) Hi) ∨ (J.go i Hi ∧ ∃ Nx : Hp → Prop, (∀ Hn, Nx Hn → ∃ m', m' < m ∧ M (i + 1) m' Hn) ∧ ∀ x Hx, J.yld i Hi x Hx → sTurn X.w D g tt te (own.map (·.2)) Nx σ x Hx))
    (hg : ∀ (s : Shared) (H : Hp) (C : Addr) (cl : List (PySem.Str × Addr)) (fp : List Addr), PG (X.blk s H sc (compEnvC sc cl C X.env) fp) tg g)
    (ht : ∀ (s : Shared) (H : Hp) (C : Addr) (cl : List (PySem.Str × Addr)) (fp : List Addr), PTs (X.blk s H sc (compEnvC sc cl C X.env) fp) ifs tt)
    (he : ∀ (s : Shared) (H : Hp) (C : Addr) (cl : List (PySem.Str × Addr)) (fp : List Addr), PE (X.blk s H sc (compEnvC sc cl C X.env) fp) elt te) :
    codeAny (model X.prog X.w) X.A (.compStart (.SetComp elt [⟨tg, iter, ifs, 0⟩] sc pos) 0 (.ref it) (.ref D) (compEnvC sc (cellsFrom (S.heap.objs.size + 1) sc.names (cloFrom X.env.cells sc.names [])) S.heap.objs.size X.env)) (compPost (model X.prog X.w) X.A X.xe none (EP X pins σ Q) (.ref D) S.heap.objs.size)
      { S with heap := pushCells (S.heap.push { cls := .type "dict", data := .dict #[] }) sc.names } := by
  have K0 := block_start I bo nd fc
  have pg := hg S Hc S.heap.objs.size (cellsFrom (S.heap.objs.size + 1) sc.names (cloFrom X.env.cells sc.names [])) fp
  have pt := ht S Hc S.heap.objs.size (cellsFrom (S.heap.objs.size + 1) sc.names (cloFrom X.env.cells sc.names [])) fp
  have pe := he S Hc S.heap.objs.size (cellsFrom (S.heap.objs.size + 1) sc.names (cloFrom X.env.cells sc.names [])) fp
  have place : (compEnvC sc (cellsFrom (S.heap.objs.size + 1) sc.names (cloFrom X.env.cells sc.names [])) S.heap.objs.size X.env).locals = S.heap.objs.size := rfl
  have st0 : tn 0 (pushCells (S.heap.push { cls := .type "dict", data := .dict #[] }) sc.names) := T.keep _ _ _ st fun b _ o e => pushCells_keeps _ _ _ _ (Heap.get?_push_of_some _ e)
  generalize compEnvC sc (cellsFrom (S.heap.objs.size + 1) sc.names (cloFrom X.env.cells sc.names [])) S.heap.objs.size X.env = ce at K0 pg pt pe place ⊢
  have free0 : ∀ b ∈ fp, Hc b = none := fun b hb => (fc b hb).1.1
  have kept : ∀ {σ' : L2.St} {H' : Hp} {z : Shared}, Inv (X.blk S Hc sc ce fp) [] σ' H' z → (∀ b ∈ fp, H' b = none) → ∀ b ∈ fp, FpOk (X.blk S Hc sc ce fp) [] H' b := fun {σ' H' z} L n b hb => by
    have e1 := L.ok.exf b hb
    exact ⟨n b hb, e1.1, L.ok.exfs b hb, .inl hb, fun x c e => e1.2 x c e, fun y hy => absurd (show y ∈ ([] : List (Addr × Obj)) ++ [] from hy) (by simp)⟩
  have loop : codeAny (model X.prog X.w) X.A (.compLoop (.SetComp elt [⟨tg, iter, ifs, 0⟩] sc pos) 0 (.ref it) (.ref D) ce) (compPost (model X.prog X.w) X.A X.xe none (EP X pins σ Q) (.ref D) S.heap.objs.size)
      { S with heap := pushCells (S.heap.push { cls := .type "dict", data := .dict #[] }) sc.names } := by
    refine compLoopS_any (fun n z => ∃ i Hi, Inv (X.blk S Hc sc ce fp) [] (wipe σ (own.map (·.2))) Hi z ∧ tn i z.heap ∧ (∀ b ∈ fp, Hi b = none) ∧ M i n Hi) ?_ m0 ⟨0, Hc, K0, st0, free0, w0⟩
    rintro n z ⟨i, Hi, Iz, sz, nz, wz⟩
    rcases turn i n Hi wz with ⟨stop, last⟩ | ⟨go, Nx, less, step⟩
    · refine thnF (T.done (X.blk S Hc sc ce fp) rfl rfl rfl calm i [] z _ Hi (fun _ _ => False) Iz (kept Iz nz) sz stop) fun r y ⟨rn, Iy⟩ => ?_
      subst rn
      have out : Inv X pins σ Hi y := I.call' (ch := fp) Iy.os Iy.base Iy.hok Iy.bare fun b hb => ⟨(fc b hb).1.2.2.2.1, (fc b hb).1.2.1, (fc b hb).1.2.2.2.2.1, (fc b hb).1.2.2.2.2.2⟩
      have nc : Hi ce.locals = none := Iy.free
      obtain ⟨m, hn, _⟩ := Iy.loc
      have hn : y.heap.Ns ce.locals m := hn
      rw [place] at nc hn
      obtain ⟨f0, f1, _, f3, f4, f5⟩ := I.fpOk (H' := Hi) (Nat.le_refl _) nc
      exact ⟨m, hn, fun h' sb => ⟨.ref D, Hi, out.turned (t' := y.toks) (fun b o hb e => (sb.2 b hb).trans e) f0 f1 f3 f4 f5, rfl, last⟩⟩
    · refine thnF (T.item (X.blk S Hc sc ce fp) rfl rfl rfl calm i [] z _ Hi (fun _ _ => False) Iz (kept Iz nz) sz go) fun r y ⟨u, ru, hy⟩ => ?_
      subst ru
      refine thnF hy fun _ y1 ⟨x, Hx, I1, rx, yx, s1, n1⟩ => ?_
      have I1p := I1.pinned (kept I1 n1) (T.obj _ _ s1)
      refine thnF (pg.run _ y1 _ Hx x u _ I1p rx (step x Hx yx)) fun _ y2 ⟨σ2, H2, I2, e2, q2⟩ => ?_
      refine thnF (pt.run _ y2 σ2 H2 _ I2 q2) fun b y3 ⟨H3, I3, q3⟩ => ?_
      have again : ∀ {y4 : Shared} {H4 : Hp}, Inv (X.blk S Hc sc ce fp) ([] ++ pinsAt fp y1.heap) σ2 H4 y4 → Nx H4 → ∃ m, m < n ∧ ∃ i Hi, Inv (X.blk S Hc sc ce fp) [] (wipe σ (own.map (·.2))) Hi y4 ∧ tn i y4.heap ∧ (∀ b ∈ fp, Hi b = none) ∧ M i m Hi := fun {y4 H4} I4 nx => by
        obtain ⟨m', lt, w'⟩ := less H4 nx
        have stay : ∀ b ∈ fp, ∀ o, y1.heap.get? b = some o → y4.heap.get? b = some o ∧ H4 b = none := fun b hb o e => by
          have p := I4.pin (b, o) (List.mem_append_right _ (List.mem_append_right _ (mem_pinsAt hb e)))
          exact ⟨p.1, p.2.1⟩
        refine ⟨m', lt, i + 1, H4, (I4.unpinned (pins := [])).weak (by rw [← e2, wipe_length]) (fun j v e => ?_), T.keep _ _ _ s1 fun b hb o e => (stay b hb o e).1, fun b hb => ?_, w'⟩
        · rw [← e2] at e
          exact (wipe_some e).1
        · obtain ⟨o, e, _⟩ := T.obj _ _ s1 b hb
          exact (stay b hb o e).2
      cases b with
      | false =>
        simp only [Bool.false_eq_true, if_false] at q3 ⊢
        exact again I3 q3
      | true =>
        simp only [if_true] at q3 ⊢
        refine thnF (pe.run _ y3 σ2 H3 _ I3 q3) fun v y4 ⟨yv, H4, I4, r4, k, ks0, ey, hD, room, nx⟩ => ?_
        subst ey
        refine wpAny_mono (mt_saddS (X := X.blk S Hc sc ce fp) _ y4 σ2 H4 (.ref D) [.str k] (.ref D) [v] (fun _ H5 => Nx H5) I4 rfl (.cons r4 .nil) ⟨D, k, ks0, rfl, rfl, hD, room, nx⟩) (fun _ y5 ⟨_, H5, I5, _, nx5⟩ => again I5 nx5) fun _ _ z => False.elim z
  exact codeAny_compStart_set loop (T.self X.A 0 _ _ _ st0 loop)
/-- the comprehension, as a value -/
theorem pe_scS {elt tg iter : Expr} {ifs : List Expr} {sc : Scope} {own : List (PySem.Str × Nat)} {pos : Pos} {wi : TI} {g : TG} {tt : TT} {te : TE} (calm : X.calm = true) (nd : X.N.Nodup) (hi : PI X tg iter wi) (bo : BlkOk X.N X.env.scope sc own)
    (hg : ∀ (s : Shared) (H : Hp) (C : Addr) (cl : List (PySem.Str × Addr)) (fp : List Addr), PG (X.blk s H sc (compEnvC sc cl C X.env) fp) tg g)
    (ht : ∀ (s : Shared) (H : Hp) (C : Addr) (cl : List (PySem.Str × Addr)) (fp : List Addr), PTs (X.blk s H sc (compEnvC sc cl C X.env) fp) ifs tt)
    (he : ∀ (s : Shared) (H : Hp) (C : Addr) (cl : List (PySem.Str × Addr)) (fp : List Addr), PE (X.blk s H sc (compEnvC sc cl C X.env) fp) elt te)
    (fold : ∀ x, foldedSetIterable iter X.env x = pure x := by intro _; rfl) :
    PE X (.SetComp elt [⟨tg, iter, ifs, 0⟩] sc pos) (tScS X.w wi g tt te (own.map (·.2))) := by
  refine ⟨fun pins s σ H Q I h => ?_⟩
  rw [eval_SetComp]
  have caught : ∀ y ∈ sc.names, y.2 = .free → ∃ c, X.env.cells.lookup y.1 = some c := fun y hy e => (bo.free y hy e).elim (fun z => I.ok.has _ (.inl z)) fun z => I.ok.has _ (.inr z)
  refine wpAny_comprehension_free rfl fold (closure_ok caught) bo.kind (fun y hy e => by rw [bo.uniq y hy, e]) (thn (hi.run pins s σ H _ I h) fun _ sa hx => thn hx fun _ sb h2 => ?_)
  obtain ⟨it, fp, tn, J, Hb, rfl, Ib, T, stb, fb, q⟩ := h2
  refine newSet_ok (newEnv_comp ?_)
  -- the set's place D, the state sc with the set
  have nD : Hb sb.heap.objs.size = none := Ib.hok.fresh (Nat.le_refl _)
  obtain ⟨M, ⟨m0, w0⟩, turn⟩ := q sb.heap.objs.size nD
  have setAt := setS_fresh (h := sb.heap) X.w
  have grown : ∀ b o, sb.heap.get? b = some o → (sb.heap.push { cls := .type "set", dict := none, data := .set #[] 0 (.fresh 0 0 (!X.w.params.followText "set-order")) }).get? b = some o := fun b o e => Heap.get?_push_of_some _ e
  have Ic := Ib.laid (t' := sb.toks) grown (Nat.le_refl _) (setS_new setAt)
  have low : ∀ b ∈ fp, b < sb.heap.objs.size := fun b hb => (T.obj _ _ stb b hb).elim fun o e => Heap.lt_size e.1
  have fc : ∀ b ∈ fp, FpOk X pins (upd Hb sb.heap.objs.size (SetSO X.w sb.heap.objs.size [])) b ∧ b < (sb.heap.push { cls := .type "set", dict := none, data := .set #[] 0 (.fresh 0 0 (!X.w.params.followText "set-order")) }).objs.size := fun b hb =>
    ⟨⟨by rw [upd_ne (Nat.ne_of_lt (low b hb))]; exact (fb b hb).1, (fb b hb).2⟩, by rw [Heap.size_push]; exact Nat.lt_succ_of_lt (low b hb)⟩
  have stc := T.keep _ _ _ stb fun b _ o e => grown b o e
  generalize sb.heap.objs.size = D at nD w0 turn setAt Ic fc ⊢
  generalize upd Hb D (SetSO X.w D []) = Hc at w0 Ic fc ⊢
  generalize (sb.heap.push { cls := .type "set", dict := none, data := .set #[] 0 (.fresh 0 0 (!X.w.params.followText "set-order")) }) = hc at setAt Ic fc stc grown ⊢
  exact scS_run calm nd bo Ic T stc fc w0 turn hg ht he
end
theorem strs_perm {w : World} {vs : List Value} {es : List (Int × Value)} (p : vs.Perm (es.map (·.2))) (g : ∀ e ∈ es, GoodS w e) : StrsAre vs (vs.map fun v => keyS (0, v)) ∧ (vs.map fun v => keyS (0, v)).Perm (es.map keyS) := by
  refine ⟨strs_of vs fun v hv => ?_, ?_⟩
  · obtain ⟨e, he, q⟩ := List.mem_map.mp (p.mem_iff.mp hv)
    obtain ⟨k, tk, h1, _⟩ := g e he
    exact ⟨k, tk, by rw [← q]; exact h1⟩
  · have q := p.map fun v => keyS (0, v)
    rw [List.map_map] at q
    exact q
section
variable {X : Cx}
/-- sorted(texts), a set of fewer than 64 -/
def rSortedTx (w : World) : List V → Hp → VK → Prop := fun vs H Q => ∃ (a : Addr) (ks : List Str), vs = [V.ref a] ∧ H a = some (SetSO w a ks) ∧ ks.length < 64 ∧ ∀ (ys : List Str) (p : Addr), ys.Perm ks → sortedS ys = true → H p = none → Q (.ref p) (upd H p (.lst (ys.map V.str)))
theorem cr_sortedTx (hc : X.calm = true) : CallR X (.builtin "sorted") (rSortedTx X.w) := by
  intro pins s σ H vs us Q I r h
  obtain ⟨a, ks, rfl, ha, h64, q⟩ := h
  obtain ⟨o, es, ep, t, ho, hex, hd, g, pm0, nd, hb, hf, hr, hl⟩ := setS_get I ha
  rw [Vals.ref1 r]
  refine Calls.call_function_entry PyProof.Rows.kind_sorted PyProof.Rows.plain_sorted PyProof.Rows.entry_sorted (PyProof.Rows.args_sorted1 _) ?_
  unfold Builtin.«sorted»
  refine wpAny_bind (m := checkCount "sorted" 1 1 _) (wpAny_pure ?_)
  refine wpAny_bind (collect_set (A := X.A.in1) (I.ok.hd hc) ⟨o, ho, hex.1, hd⟩ hf hb hr hl fun s1 vs k1 hz g1 o1 pm => ?_)
  obtain ⟨hS, pk⟩ := strs_perm pm g
  have pk2 := pk.trans pm0
  have hvl : vs.length = ks.length := by rw [← List.length_map (f := fun v => keyS (0, v)), pk2.length_eq]
  refine wpAny_bind (wpAny_newList ?_ (by rw [hvl, sizeLine_eq]; omega))
  have hoL : (s1.heap.push (seqObj "list" vs.toArray 0)).get? s1.heap.objs.size = some (seqObj "list" vs.toArray 0) := Heap.get?_push_size _ rfl
  show wpAny _ _ _ _ _ { s1 with heap := s1.heap.push (seqObj "list" vs.toArray 0) }
  refine wpAny_bind (wpAny_holding (wpAny_call_entry PyProof.Rows.slot_list_sort ⟨_, hoL, rfl⟩ PyProof.Rows.entry_list_sort
    (list_sort_treeK strKind_oneLt (s := { s1 with heap := s1.heap.push (seqObj "list" vs.toArray 0) }) hoL hS.keysOf (fun v₁ v₂ rest e => keyKind_strs (by rw [← e]; exact hS)) (by rw [hvl]; exact h64) fun st' hp hs => ⟨_, rfl, ?_⟩)
    (PyProof.Rows.args_list_sort _)))
  obtain ⟨ys, q1, q2, q3⟩ := sorted_out_str hS hp hs
  obtain ⟨e', he'⟩ := PyProof.Rows.sortedHeap_at (vs := vs) (out := (arrOf st').map (·.2)) hoL
  have hlen : (ys.map V.str).length ≤ sizeLine := by
    rw [List.length_map, (q2.trans pk2).length_eq]
    exact Nat.le_trans (Nat.le_of_lt h64) (by decide)
  have k : ∀ b u, s.heap.get? b = some u → (sortedHeap (s1.heap.push (seqObj "list" vs.toArray 0)) s1.heap.objs.size vs ((arrOf st').map (·.2))).get? b = some u := fun b u e => by
    have e1 := k1 b u e
    have hb : b < s1.heap.objs.size := Heap.lt_size e1
    rw [PyProof.Rows.sortedHeap_old (Nat.ne_of_lt hb) (by rw [size_push']; exact Nat.lt_succ_of_lt hb)]
    exact Heap.get?_push_of_some _ e1
  have hn : H s1.heap.objs.size = none := I.hok.fresh hz
  refine wpAny_pure ⟨_, rfl, ?_⟩
  have J : Inv X pins σ (upd H s1.heap.objs.size (.lst (ys.map V.str))) { s with heap := sortedHeap (s1.heap.push (seqObj "list" vs.toArray 0)) s1.heap.objs.size vs ((arrOf st').map (·.2)), gens := s1.gens, drawn := s1.drawn, toks := s1.toks } :=
    I.call (ch := []) (Un.laid k hz hn) (I.hok.laid k hz ⟨hlen, ((arrOf st').map (·.2)).toList, e', vals_of_strs q1, by rw [Array.toArray_toList]; exact he'⟩) (by rw [g1]; exact I.bare) (fun _ z => nomatch z)
  exact ⟨.ref s1.heap.objs.size, _, by first | exact J | (cases s1; cases s; cases o1; exact J), rfl, q ys _ (q2.trans pk2) q3 hn⟩
end
/-- {e for x in l}, l a list, e's values texts; nothing that stood is changed -/
theorem sc_txts {w : World} {K : PySem.W.Frag} {a : Addr} {xs : List V} {ys : List Str} {te : TE} {j : Nat} {σ : L2.St} {H1 : Hp} {Q : VK} (hx : SqL K H1 a xs) (hl : ys.length = xs.length) (hz : ys.length ≤ 1000)
    (el : ∀ (i : Nat) (x : V) (y : Str) (H' : Hp), xs[i]? = some x → ys[i]? = some y → Same H1 H' → ∀ Q : VK, (∀ H'', Same H' H'' → Q (.str y) H'') → te ((wipe σ [j]).set j (some x)) H' Q)
    (q : ∀ D ks H', Same H1 H' → H1 D = none → H' D = some (SetSO w D ks) → ks.Nodup → (∀ y, y ∈ ks ↔ y ∈ ys) → ks.length ≤ ys.length → Q (.ref D) H') (tl : TE) (ht : ∀ R : VK, R (.ref a) H1 → tl σ H1 R) : tScS w (iList K tl) (gName j) tYes te [j] σ H1 Q := by
  refine ht _ ⟨a, rfl, ⟨xs, hx⟩, fun D nD => ?_⟩
  refine ⟨fun i m H => m = xs.length - i ∧ i ≤ xs.length ∧ Same H1 H ∧ ∃ ks : List Str, H D = some (SetSO w D ks) ∧ ks.Nodup ∧ (∀ y, y ∈ ks ↔ y ∈ ys.take i) ∧ ks.length ≤ i, ⟨_, rfl, Nat.zero_le _, same_new nD _, [], upd_same, List.nodup_nil, by simp, Nat.le_refl _⟩, ?_⟩
  rintro i m H ⟨rfl, ile, s, ks, hD, nd, mem, kl⟩
  by_cases c : i < xs.length
  · have hi : xs[i]? = some xs[i] := List.getElem?_eq_getElem c
    have hy : ys[i]? = some ys[i] := List.getElem?_eq_getElem (by omega)
    refine .inr ⟨⟨xs, xs[i], s.seq hx, hi⟩, fun H' => Same H1 H' ∧ ∃ ks : List Str, H' D = some (SetSO w D ks) ∧ ks.Nodup ∧ (∀ y, y ∈ ks ↔ y ∈ ys.take (i + 1)) ∧ ks.length ≤ i + 1, fun H' nx => ⟨_, by omega, rfl, c, nx⟩, fun x Hx y => ?_⟩
    obtain ⟨rfl, y⟩ := y
    have ex := y xs (s.seq hx)
    refine ⟨wipe1 _ _ _, ?_⟩
    dsimp only [tYes]
    rw [if_pos rfl]
    refine el i x ys[i] Hx ex hy s _ fun H2 e2 => ?_
    refine ⟨ys[i], ks, rfl, e2 _ _ hD, ?_, same_upd (s.trans e2) nD, _, upd_same, ?_, ?_, ?_⟩
    · have : (1001 : Nat) < scanBound := by decide
      omega
    · split
      · exact nd
      · rename_i hn
        rw [List.nodup_append]
        refine ⟨nd, by simp, fun a ha b hb e => ?_⟩
        rw [List.mem_singleton.mp hb] at e
        exact hn (e ▸ ha)
    · intro z
      rw [List.take_succ, hy, Option.toList_some, List.mem_append, ← mem z]
      split
      · rename_i hin
        constructor
        · exact .inl
        · rintro (h | h)
          · exact h
          · rw [List.mem_singleton.mp h]; exact hin
      · rw [List.mem_append]
    · split
      · omega
      · rw [List.length_append, List.length_singleton]; omega
  · have e : i = xs.length := by omega
    subst e
    refine .inl ⟨⟨xs, s.seq hx, Nat.le_refl _⟩, q D ks H s nD hD nd ?_ (by omega)⟩
    intro y
    rw [mem y, ← hl, List.take_length]
end Lm
set_option Elab.async false
set_option linter.all false
set_option maxRecDepth 100000
set_option maxHeartbeats 1000000
/-! the text of a side, of a claim -/
namespace Lm
open PySem PySem.Spec PyProof.Rows L2 PpSet
theorem risingS_pair : ∀ (ys : List Str) (p : Str), risingS p ys = true → (p :: ys).Pairwise fun a b => a.cps.toList ≤ b.cps.toList
  | [], p, _ => List.pairwise_singleton _ _
  | x :: r, p, h => by
    rw [risingS, Bool.and_eq_true, ltCps_eq, Bool.not_eq_true', decide_eq_false_iff_not, List.not_lt] at h
    have ih := risingS_pair r x h.2
    refine List.pairwise_cons.mpr ⟨fun z hz => ?_, ih⟩
    rcases List.mem_cons.mp hz with rfl | hz
    · exact h.1
    · exact List.le_trans h.1 ((List.pairwise_cons.mp ih).1 z hz)
theorem sortedS_pair : ∀ (ys : List Str), sortedS ys = true → ys.Pairwise fun a b => a.cps.toList ≤ b.cps.toList
  | [], _ => .nil
  | x :: r, h => risingS_pair r x h
theorem str_ext {x y : Str} (h : x.cps.toList = y.cps.toList) : x = y := by
  cases x
  cases y
  congr 1
  exact Array.toList_inj.mp h
theorem sorted_uniq {ys zs : List Str} (h1 : sortedS ys = true) (h2 : sortedS zs = true) (n1 : ys.Nodup) (n2 : zs.Nodup) (m : ∀ y, y ∈ ys ↔ y ∈ zs) : ys = zs :=
  List.Perm.eq_of_pairwise (fun a b _ _ p q => str_ext (List.le_antisymm p q)) (sortedS_pair _ h1) (sortedS_pair _ h2) ((List.perm_ext_iff_of_nodup n1 n2).mpr m)
/-- F: what stands in L, once each, by the order of the texts -/
def Side (L F : List Fm) : Prop := F.Nodup ∧ (∀ f, f ∈ F ↔ f ∈ L) ∧ sortedS (F.map spS) = true
def sideTx (F : List Fm) : Str := Txt.join (";" : Str) (F.map spS)
def clTx (F G : List Fm) : Str := ((Str.empty ++ sideTx F) ++ ("|" : Str)) ++ sideTx G
def ClT (L R : List Fm) (y : Str) : Prop := ∃ F G, Side L F ∧ Side R G ∧ y = clTx F G
theorem gd_side {L F : List Fm} (g : Gd L) (s : Side L F) : Gd F := fun f hf => g f ((s.2.1 f).1 hf)
theorem map_spS_nodup : ∀ {F : List Fm}, Gd F → F.Nodup → (F.map spS).Nodup
  | [], _, _ => List.nodup_nil
  | f :: F, g, n => by
    rw [List.map_cons, List.nodup_cons]
    have n' := List.nodup_cons.mp n
    refine ⟨fun h => ?_, map_spS_nodup (fun x hx => g x (List.mem_cons_of_mem _ hx)) n'.2⟩
    obtain ⟨k, hk, e⟩ := List.mem_map.mp h
    have := spS_inj (g k (List.mem_cons_of_mem _ hk)).1 (g f List.mem_cons_self).1 e
    exact n'.1 (this ▸ hk)
theorem map_spS_inj : ∀ {F G : List Fm}, Gd F → Gd G → F.map spS = G.map spS → F = G
  | [], [], _, _, _ => rfl
  | [], _ :: _, _, _, h => nomatch h
  | _ :: _, [], _, _, h => nomatch h
  | f :: F, k :: G, g, h, e => by
    rw [List.map_cons, List.map_cons] at e
    have e := List.cons.inj e
    rw [spS_inj (g f List.mem_cons_self).1 (h k List.mem_cons_self).1 e.1, map_spS_inj (fun x hx => g x (List.mem_cons_of_mem _ hx)) (fun x hx => h x (List.mem_cons_of_mem _ hx)) e.2]
theorem side_uniq {L L' F F' : List Fm} (g : Gd L) (g' : Gd L') (s : Side L F) (s' : Side L' F') : F = F' ↔ SameF L L' := by
  constructor
  · rintro rfl f
    rw [← s.2.1 f, s'.2.1 f]
  · intro h
    have gF := gd_side g s
    have gF' := gd_side g' s'
    refine map_spS_inj gF gF' (sorted_uniq s.2.2 s'.2.2 (map_spS_nodup gF s.1) (map_spS_nodup gF' s'.1) fun y => ?_)
    have : SameF F F' := fun f => by rw [s.2.1 f, s'.2.1 f]; exact h f
    constructor
    · intro hy
      obtain ⟨f, hf, e⟩ := List.mem_map.mp hy
      exact List.mem_map.mpr ⟨f, (this f).1 hf, e⟩
    · intro hy
      obtain ⟨f, hf, e⟩ := List.mem_map.mp hy
      exact List.mem_map.mpr ⟨f, (this f).2 hf, e⟩
/-! ### the codes -/
def jn : List Fm → List Nat → List Nat
  | [], r => r
  | [f], r => sp f ++ r
  | f :: g :: F, r => sp f ++ (59 :: jn (g :: F) r)
theorem tl_semi : TL.tl (";" : Str) = [59] := by decide +kernel
theorem tl_bar : TL.tl ("|" : Str) = [124] := by decide +kernel
theorem jn_tl : ∀ (F : List Fm) (r : List Nat), TL.joinL [59] (F.map sp) ++ r = jn F r
  | [], r => rfl
  | [f], r => rfl
  | f :: g :: F, r => by
    have ih := jn_tl (g :: F) r
    show (sp f ++ ([59] ++ TL.joinL [59] ((g :: F).map sp))) ++ r = sp f ++ (59 :: jn (g :: F) r)
    rw [List.append_assoc, List.append_assoc, ih]
    rfl
theorem clTx_tl (F G : List Fm) : TL.tl (clTx F G) = jn F (124 :: jn G []) := by
  have one : ∀ F : List Fm, TL.tl (sideTx F) = TL.joinL [59] (F.map sp) := fun F => by
    show TL.tl (Txt.join (";" : Str) (F.map spS)) = _
    rw [TL.join_eq, TL.tl_join, tl_semi, List.map_map]
    congr 1
    exact List.map_congr_left fun f _ => spS_tl f
  show TL.tl (((Str.empty ++ sideTx F) ++ ("|" : Str)) ++ sideTx G) = _
  rw [TL.tl_append, TL.tl_append, TL.tl_append, tl_empty, tl_bar, one, one, ← jn_tl F, ← jn_tl G []]
  simp only [List.nil_append, List.append_nil, List.append_assoc, List.cons_append]
theorem sp_head (f : Fm) (h : f.good) : ∃ c r, sp f = c :: r ∧ c ≠ 124 ∧ c ≠ 59 := by
  cases f with
  | sg i =>
    obtain ⟨c, r, h1, h2⟩ := dig_head h
    refine ⟨c, r, h1, fun e => ?_, fun e => ?_⟩
    · subst e; cases h2
    · subst e; cases h2
  | no f =>
    refine ⟨110, [111, 116] ++ (40 :: (sp f ++ [41])), ?_, by decide, by decide⟩
    show TL.tl ("not" : Str) ++ _ = _
    rw [tl_not]
    rfl
  | bi b f g =>
    obtain ⟨c, r, h1, _, _, h4⟩ := head_txt b
    refine ⟨c, r ++ (40 :: (sp f ++ (44 :: (sp g ++ [41])))), ?_, ?_, ?_⟩
    · show TL.tl b.txt ++ _ = _
      rw [h1]
      rfl
    · rw [h4]; cases b <;> decide
    · rw [h4]; cases b <;> decide
/-- what may stand behind a side -/
def End (r : List Nat) : Prop := r = [] ∨ ∃ t, r = 124 :: t
theorem end_nd {r : List Nat} (h : End r) : Nd r := by
  rcases h with rfl | ⟨t, rfl⟩
  · rfl
  · exact nd_cons (by decide) _
theorem jn_inj : ∀ (F G : List Fm) (r t : List Nat), Gd F → Gd G → End r → End t → jn F r = jn G t → F = G ∧ r = t
  | [], [], r, t, _, _, _, _, h => ⟨rfl, h⟩
  | [], g :: G, r, t, _, hG, hr, _, h => by
    exfalso
    obtain ⟨c, x, e, n1, n2⟩ := sp_head g (hG g List.mem_cons_self).1
    have : ∃ y, jn (g :: G) t = c :: y := by
      cases G with
      | nil => exact ⟨x ++ t, by rw [jn, e]; rfl⟩
      | cons k G => exact ⟨x ++ (59 :: jn (k :: G) t), by rw [jn, e]; rfl⟩
    obtain ⟨y, e2⟩ := this
    rw [e2] at h
    have h : r = c :: y := h
    rcases hr with rfl | ⟨u, rfl⟩
    · cases h
    · exact n1 (List.cons.inj h).1.symm
  | f :: F, [], r, t, hF, _, _, ht, h => by
    exfalso
    obtain ⟨c, x, e, n1, n2⟩ := sp_head f (hF f List.mem_cons_self).1
    have : ∃ y, jn (f :: F) r = c :: y := by
      cases F with
      | nil => exact ⟨x ++ r, by rw [jn, e]; rfl⟩
      | cons k F => exact ⟨x ++ (59 :: jn (k :: F) r), by rw [jn, e]; rfl⟩
    obtain ⟨y, e2⟩ := this
    rw [e2] at h
    have h : c :: y = t := h
    rcases ht with rfl | ⟨u, rfl⟩
    · cases h
    · exact n1 (List.cons.inj h).1
  | [f], [g], r, t, hF, hG, hr, ht, h => by
    obtain ⟨e1, e2⟩ := sp_split f g r t (hF f List.mem_cons_self).1 (hG g List.mem_cons_self).1 (end_nd hr) (end_nd ht) h
    exact ⟨by rw [e1], e2⟩
  | [f], g :: k :: G, r, t, hF, hG, hr, ht, h => by
    exfalso
    obtain ⟨e1, e2⟩ := sp_split f g r (59 :: jn (k :: G) t) (hF f List.mem_cons_self).1 (hG g List.mem_cons_self).1 (end_nd hr) (nd_cons (by decide) _) h
    rcases hr with rfl | ⟨u, rfl⟩
    · cases e2
    · exact absurd (List.cons.inj e2).1 (by decide)
  | f :: k :: F, [g], r, t, hF, hG, hr, ht, h => by
    exfalso
    obtain ⟨e1, e2⟩ := sp_split f g (59 :: jn (k :: F) r) t (hF f List.mem_cons_self).1 (hG g List.mem_cons_self).1 (nd_cons (by decide) _) (end_nd ht) h
    rcases ht with rfl | ⟨u, rfl⟩
    · cases e2
    · exact absurd (List.cons.inj e2).1 (by decide)
  | f :: k :: F, g :: l :: G, r, t, hF, hG, hr, ht, h => by
    obtain ⟨e1, e2⟩ := sp_split f g (59 :: jn (k :: F) r) (59 :: jn (l :: G) t) (hF f List.mem_cons_self).1 (hG g List.mem_cons_self).1 (nd_cons (by decide) _) (nd_cons (by decide) _) h
    obtain ⟨q1, q2⟩ := jn_inj (k :: F) (l :: G) r t (fun x hx => hF x (List.mem_cons_of_mem _ hx)) (fun x hx => hG x (List.mem_cons_of_mem _ hx)) hr ht (List.cons.inj e2).2
    exact ⟨by rw [e1, q1], q2⟩
theorem clTx_inj {F G F' G' : List Fm} (hF : Gd F) (hG : Gd G) (hF' : Gd F') (hG' : Gd G') (h : clTx F G = clTx F' G') : F = F' ∧ G = G' := by
  have e : jn F (124 :: jn G []) = jn F' (124 :: jn G' []) := by rw [← clTx_tl, ← clTx_tl, h]
  obtain ⟨e1, e2⟩ := jn_inj F F' _ _ hF hF' (.inr ⟨_, rfl⟩) (.inr ⟨_, rfl⟩) e
  obtain ⟨e3, _⟩ := jn_inj G G' _ _ hG hG' (.inl rfl) (.inl rfl) (List.cons.inj e2).2
  exact ⟨e1, e3⟩
theorem clT_eq {L R L' R' : List Fm} {y y' : Str} (gL : Gd L) (gR : Gd R) (gL' : Gd L') (gR' : Gd R') (h : ClT L R y) (h' : ClT L' R' y') : y = y' ↔ SameF L L' ∧ SameF R R' := by
  obtain ⟨F, G, sF, sG, rfl⟩ := h
  obtain ⟨F', G', sF', sG', rfl⟩ := h'
  rw [← side_uniq gL gL' sF sF', ← side_uniq gR gR' sG sG']
  constructor
  · exact fun e => clTx_inj (gd_side gL sF) (gd_side gR sG) (gd_side gL' sF') (gd_side gR' sG') e
  · rintro ⟨rfl, rfl⟩; rfl
/-! ### their length -/
theorem sp_size : ∀ {f : Fm}, f.good → (sp f).length ≤ 7 * f.size
  | .sg i, h => by
    have q := (digs_of h).2.2.2
    show (digs i).length ≤ 7 * 1
    omega
  | .no f, h => by
    have q := sp_size (f := f) h
    show (TL.tl ("not" : Str) ++ (40 :: (sp f ++ [41]))).length ≤ 7 * (f.size + 1)
    have e : (40 :: (sp f ++ [41])).length = (sp f).length + 2 := by rw [List.length_cons, List.length_append]; rfl
    rw [tl_not, List.length_append, e]
    show 3 + ((sp f).length + 2) ≤ _
    omega
  | .bi b f g, h => by
    have q := sp_size (f := f) h.1
    have q2 := sp_size (f := g) h.2
    have q3 := txt_len b
    show (TL.tl b.txt ++ (40 :: (sp f ++ (44 :: (sp g ++ [41]))))).length ≤ 7 * (f.size + g.size + 1)
    rw [List.length_append, List.length_cons, List.length_append, List.length_cons, List.length_append]
    show (TL.tl b.txt).length + ((sp f).length + ((sp g).length + 1 + 1) + 1) ≤ _
    omega
theorem jn_len : ∀ (F : List Fm) (r : List Nat), Gd F → (jn F r).length ≤ 7 * wordsS F + F.length + r.length
  | [], r, _ => by show r.length ≤ _; omega
  | [f], r, h => by
    have := sp_size (h f List.mem_cons_self).1
    show (sp f ++ r).length ≤ 7 * (f.size + 0) + 1 + r.length
    rw [List.length_append]
    omega
  | f :: g :: F, r, h => by
    have := sp_size (h f List.mem_cons_self).1
    have ih := jn_len (g :: F) r fun x hx => h x (List.mem_cons_of_mem _ hx)
    show (sp f ++ (59 :: jn (g :: F) r)).length ≤ 7 * (f.size + wordsS (g :: F)) + ((g :: F).length + 1) + r.length
    rw [List.length_append, List.length_cons]
    omega
theorem nodup_words : ∀ {F : List Fm} {L : List Fm}, F.Nodup → (∀ f ∈ F, f ∈ L) → wordsS F ≤ wordsS L ∧ F.length ≤ L.length
  | [], L, _, _ => ⟨Nat.zero_le _, Nat.zero_le _⟩
  | f :: F, L, n, h => by
    have n' := List.nodup_cons.mp n
    obtain ⟨A, B, e⟩ := List.append_of_mem (h f List.mem_cons_self)
    have ih := nodup_words (F := F) (L := A ++ B) n'.2 fun x hx => by
      have := h x (List.mem_cons_of_mem _ hx)
      rw [e, List.mem_append, List.mem_cons] at this
      rw [List.mem_append]
      rcases this with z | rfl | z
      · exact .inl z
      · exact absurd hx n'.1
      · exact .inr z
    rw [e]
    have wa : ∀ A B : List Fm, wordsS (A ++ B) = wordsS A + wordsS B := fun A B => by unfold wordsS; rw [List.map_append, List.sum_append]
    rw [wa] at ih
    rw [wa]
    rw [List.length_append] at ih
    rw [List.length_append]
    show f.size + wordsS F ≤ wordsS A + (f.size + wordsS B) ∧ F.length + 1 ≤ A.length + (B.length + 1)
    omega
theorem side_len {L F : List Fm} (g : Gd L) (s : Side L F) : (sideTx F).length ≤ 7 * wordsS L + L.length := by
  have h1 := nodup_words s.1 fun f hf => (s.2.1 f).1 hf
  have h2 := jn_len F [] (gd_side g s)
  rw [← jn_tl, List.append_nil] at h2
  have e : TL.tl (sideTx F) = TL.joinL [59] (F.map sp) := by
    show TL.tl (Txt.join (";" : Str) (F.map spS)) = _
    rw [TL.join_eq, TL.tl_join, tl_semi, List.map_map]
    congr 1
    exact List.map_congr_left fun f _ => spS_tl f
  rw [TL.len_tl, e]
  have : ([] : List Nat).length = 0 := rfl
  omega
theorem sum_len : ∀ (F : List Fm), Gd F → ((F.map spS).map (·.length)).sum ≤ 7 * wordsS F
  | [], _ => Nat.le_refl _
  | f :: F, h => by
    have ih := sum_len F fun x hx => h x (List.mem_cons_of_mem _ hx)
    have := sp_size (h f List.mem_cons_self).1
    show (spS f).length + ((F.map spS).map (·.length)).sum ≤ 7 * (f.size + wordsS F)
    rw [TL.len_tl, spS_tl]
    omega
/-- texts of formulas: of a list of formulas -/
theorem txts_back : ∀ {ys : List Str} {L : List Fm}, (∀ y ∈ ys, y ∈ L.map spS) → ∃ F : List Fm, ys = F.map spS ∧ ∀ f ∈ F, f ∈ L
  | [], L, _ => ⟨[], rfl, fun f h => nomatch h⟩
  | y :: ys, L, h => by
    obtain ⟨f, hf, e⟩ := List.mem_map.mp (h y List.mem_cons_self)
    obtain ⟨F, e2, h2⟩ := txts_back (ys := ys) fun z hz => h z (List.mem_cons_of_mem _ hz)
    refine ⟨f :: F, by rw [List.map_cons, e, e2], fun k hk => ?_⟩
    rcases List.mem_cons.mp hk with rfl | hk
    · exact hf
    · exact h2 k hk
theorem map_nodup_back : ∀ {F : List Fm}, (F.map spS).Nodup → F.Nodup
  | [], _ => List.nodup_nil
  | f :: F, h => by
    rw [List.map_cons, List.nodup_cons] at h
    exact List.nodup_cons.mpr ⟨fun z => h.1 (List.mem_map_of_mem z), map_nodup_back h.2⟩
/-- sorted(the set of the texts of a side) -/
theorem side_of {L : List Fm} {ks ys : List Str} (g : Gd L) (nd : ks.Nodup) (m : ∀ y, y ∈ ks ↔ y ∈ L.map spS) (p : ys.Perm ks) (s : sortedS ys = true) : ∃ F, ys = F.map spS ∧ Side L F := by
  obtain ⟨F, e, h⟩ := txts_back (ys := ys) (L := L) fun y hy => (m y).1 (p.mem_iff.mp hy)
  refine ⟨F, e, map_nodup_back (by rw [← e]; exact p.nodup_iff.mpr nd), fun f => ⟨h f, fun hf => ?_⟩, by rw [← e]; exact s⟩
  have : spS f ∈ ys := p.mem_iff.mpr ((m _).2 (List.mem_map_of_mem hf))
  rw [e] at this
  obtain ⟨k, hk, e2⟩ := List.mem_map.mp this
  rw [← spS_inj (g k (h k hk)).1 (g f hf).1 e2]
  exact hk
end Lm
set_option Elab.async false
set_option linter.all false
set_option maxRecDepth 100000
set_option maxHeartbeats 400000
namespace Lm
open PySem PySem.Spec PyProof.Rows L2
/-! ### the texts of claims -/
def spSideSp (K : PySem.W.Frag) : Sp := fun vs H Q _ => ∃ (a : Addr) (xs : List V) (L : List Fm), vs = [.ref a] ∧ SqL K H a xs ∧ DpAll K H xs (L.map Fm.toD) ∧ Gd L ∧ L.length < 64 ∧ wordsS L ≤ 10000 ∧
  ∀ (F : List Fm) (H' : Hp), Side L F → Same H H' → Q (.str (sideTx F)) H'
def spClaimSp (K : PySem.W.Frag) : Sp := fun vs H Q _ => ∃ (v : V) (L R : List Fm), vs = [v] ∧ Dp K H v (cD L R) ∧ Gd L ∧ Gd R ∧ L.length < 64 ∧ R.length < 64 ∧ wordsS L ≤ 10000 ∧ wordsS R ≤ 10000 ∧
  ∀ (y : Str) (H' : Hp), ClT L R y → Same H H' → Q (.str y) H'
section
variable {P : Program} {w : World} {K : PySem.W.Frag} {mg : Str → Option Value} {base : Heap} {f : Addr} {fd : FuncData}
theorem scSideSp : FnScope ["side", "f"] ["side"] (defScope sSideSp) := ⟨rfl, rfl, rfl, by decide +kernel, rfl, by decide +kernel, by decide +kernel⟩
theorem cs_semi : (";" : Str).length = 1 := by decide +kernel
theorem cs_bar : ("|" : Str).length = 1 := by decide +kernel
theorem bt_sorted : bootBuiltins "sorted" = some (.builtin "sorted") := by first | exact PyProof.Rows.boot_sorted | decide +kernel
theorem ok_sideSp (D : Df K mg "_side_spelled" sSideSp ["side"] f fd) (ms : mg "sorted" = none) (S : Has P w K mg base 14 "spelled" ["f"] (spSpelled K 13)) : FnOk P w K mg base CX0 15 f fd ["side"] (spSideSp K) := by
  refine D.fn.ok scSideSp (fun vs H Q E h => ?_) (fun cdv A outer s H vs Q E hr h => ?_)
  · obtain ⟨a, xs, L, rfl, _⟩ := h
    rfl
  obtain ⟨a, xs, L, rfl, ha, da, gl, n64, nw, q⟩ := h
  refine ⟨_, pss_one (ps_ret (pe_join pe_str (pe_callB (cr_sortedTx rfl) (by rfl) ms bt_sorted (pa_cons (pe_scS (own := [("f", 1)]) (g := gName 1) (tt := tYes) rfl scSideSp.nd (pi_list (pv 0))
      (blkOk_by (N := ["side", "f"]) (sc := defScope sSideSp) (by decide +kernel)) (fun _ _ _ _ _ => pg_name (i := 1) scSideSp.nd rfl (Or.inl rfl)) (fun _ _ _ _ _ => pts_nil) (fun _ _ _ _ _ => pe_callH S hr (by rfl) (pa_cons (pv 1) pa_nil))) pa_nil)))), ?_⟩
  have l1 := dpAll_len da
  rw [List.length_map] at l1
  refine ⟨⟨_, rfl⟩, ?_⟩
  dsimp only [tCB]
  rw [tCons]
  dsimp only [tNil]
  refine sc_txts (K := K) (a := a) (xs := xs) (ys := L.map spS) (j := 1) ha (by rw [List.length_map, l1]) (by rw [List.length_map]; omega) (fun i x y H' hi hy e Q' q' => ?_) (fun D1 ks H1 e1 nD1 hD nd mem kl => ?_) _ (fun R r => ⟨.ref a, rfl, r⟩)
  · obtain ⟨g, hg, hx⟩ := kid_get da hi
    have m := List.mem_of_getElem? hg
    have ey : y = spS g := by
      rw [List.getElem?_map, hg] at hy
      exact (Option.some.inj hy).symm
    rw [ey] at q'
    exact ⟨x, rfl, x, g, rfl, dp_same e _ _ hx, (gl g m).1, (gl g m).2, Nat.lt_succ_of_le (gl g m).2, q'⟩
  rw [List.length_map] at kl
  refine ⟨D1, ks, rfl, hD, by omega, fun ys p hp hs np => ?_⟩
  obtain ⟨F, rfl, sF⟩ := side_of gl nd mem hp hs
  refine ⟨(";" : Str), p, F.map spS, rfl, rfl, .inl (SqL.of upd_same), ?_, q F _ sF (e1.trans (same_new np _))⟩
  have h1 := nodup_words sF.1 fun f hf => (sF.2.1 f).1 hf
  have h2 := sum_len F (gd_side gl sF)
  rw [cs_semi, List.length_map]
  omega
theorem scClaimSp : FnScope ["claim", "left", "right"] ["claim"] (defScope sClaimSp) := ⟨rfl, rfl, rfl, by decide +kernel, rfl, by decide +kernel, by decide +kernel⟩
theorem ok_claimSp (D : Df K mg "claim_spelled" sClaimSp ["claim"] f fd) (S : Has P w K mg base 15 "_side_spelled" ["side"] (spSideSp K)) : FnOk P w K mg base CX0 16 f fd ["claim"] (spClaimSp K) := by
  refine D.fn.ok scClaimSp (fun vs H Q E h => ?_) (fun cdv A outer s H vs Q E hr h => ?_)
  · obtain ⟨v, L, R, rfl, _⟩ := h
    rfl
  obtain ⟨v, L, R, rfl, hd, gL, gR, n1, n2, w1, w2, q⟩ := h
  refine ⟨_, pss_cons (ps_asg (pv 0) (pg_tup rfl (pgs_cons (pg_name (i := 1) scClaimSp.nd rfl (.inl rfl)) (pgs_cons (pg_name (i := 2) scClaimSp.nd rfl (.inl rfl)) pgs_nil))))
    (pss_one (ps_ret (pe_joined (.cons (pe_fmt (pe_callH S hr (by rfl) (pa_cons (pv 1) pa_nil))) (.cons pe_str (.cons (pe_fmt (pe_callH S hr (by rfl) (pa_cons (pv 2) pa_nil))) .nil)))))), ?_⟩
  obtain ⟨a, b, c, xs, zs, rfl, ht, hb, hc, db, dc⟩ := dp_claim hd
  have z16 : ∀ {n : Nat}, n ≤ 1000000 → n ≤ sizeLine := fun h => Nat.le_trans h (by decide)
  refine ⟨.ref a, rfl, a, _, rfl, ht, rfl, .ref b, _, rfl, .ref c, _, rfl, rfl, ?_⟩
  refine ⟨.ref b, rfl, b, xs, L, rfl, hb, db, gL, n1, w1, fun F H1 sF e1 => ?_⟩
  have lF := side_len gL sF
  have l0 : (Str.empty ++ sideTx F).length ≤ 100000 := by rw [str_len, cs_empty]; omega
  have l1 : ((Str.empty ++ sideTx F) ++ ("|" : Str)).length ≤ 100001 := by rw [str_len, cs_bar]; omega
  refine .inl ⟨sideTx F, rfl, z16 (by omega), _, rfl, z16 (by omega), _, rfl, z16 (by omega), ?_⟩
  refine ⟨.ref c, rfl, c, zs, R, rfl, e1.seq hc, dpAll_same e1 _ _ dc, gR, n2, w2, fun G H2 sG e2 => ?_⟩
  have lG := side_len gR sG
  refine .inl ⟨sideTx G, rfl, z16 (by omega), _, rfl, ?_, q _ _ ⟨F, G, sF, sG, rfl⟩ (e1.trans e2)⟩
  rw [str_len]
  exact z16 (by omega)
end
end Lm
set_option Elab.async false
set_option linter.all false
set_option maxRecDepth 100000
set_option maxHeartbeats 400000
/-! rules: mathematics -/
namespace Lm
open PySem
/-! ### each once -/
def onceA : List Fm → List Fm → List Fm
  | acc, [] => acc
  | acc, f :: fs => onceA (if f ∈ acc then acc else acc ++ [f]) fs
def once (L : List Fm) : List Fm := onceA [] L
theorem onceA_app : ∀ (acc A B : List Fm), onceA acc (A ++ B) = onceA (onceA acc A) B
  | _, [], _ => rfl
  | acc, f :: fs, B => onceA_app _ fs B
theorem mem_onceA : ∀ {acc L : List Fm} {g : Fm}, g ∈ onceA acc L ↔ g ∈ acc ∨ g ∈ L
  | acc, [], g => by simp [onceA]
  | acc, f :: fs, g => by
    rw [onceA, mem_onceA]
    split
    · rename_i h
      constructor
      · rintro (h1 | h1)
        · exact .inl h1
        · exact .inr (List.mem_cons_of_mem _ h1)
      · rintro (h1 | h1)
        · exact .inl h1
        · rcases List.mem_cons.mp h1 with rfl | h1
          · exact .inl h
          · exact .inr h1
    · simp [or_assoc]
theorem mem_once {L : List Fm} {g : Fm} : g ∈ once L ↔ g ∈ L := by unfold once; rw [mem_onceA]; simp
theorem nodup_onceA : ∀ {acc L : List Fm}, acc.Nodup → (onceA acc L).Nodup
  | acc, [], h => h
  | acc, f :: fs, h => by
    rw [onceA]
    refine nodup_onceA ?_
    split
    · exact h
    · rename_i c
      rw [List.nodup_append]
      refine ⟨h, by simp, fun a ha b hb e => ?_⟩
      rw [List.mem_singleton.mp hb] at e
      exact c (e ▸ ha)
theorem nodup_once (L : List Fm) : (once L).Nodup := nodup_onceA List.nodup_nil
theorem onceA_nodup : ∀ {acc L : List Fm}, (acc ++ L).Nodup → onceA acc L = acc ++ L
  | acc, [], _ => by simp [onceA]
  | acc, f :: fs, h => by
    have hf : ¬ f ∈ acc := fun z => by
      rw [List.nodup_append] at h
      exact h.2.2 f z f List.mem_cons_self rfl
    rw [onceA, if_neg hf, onceA_nodup (by simpa using h)]
    simp
theorem once_of_nodup {L : List Fm} (h : L.Nodup) : once L = L := by
  have := onceA_nodup (acc := []) (L := L) (by simpa using h)
  simpa [once] using this
theorem once_once (L : List Fm) : once (once L) = once L := once_of_nodup (nodup_once L)
theorem once_app (A B : List Fm) : once (once A ++ B) = once (A ++ B) := by
  unfold once
  rw [onceA_app, onceA_app]
  have := once_once A
  unfold once at this
  rw [this]
theorem onceA_filter (p : Fm → Bool) : ∀ (acc L : List Fm), onceA (acc.filter p) (L.filter p) = (onceA acc L).filter p
  | acc, [] => rfl
  | acc, f :: fs => by
    rw [onceA]
    by_cases c : p f = true
    · rw [List.filter_cons_of_pos c, onceA, ← onceA_filter p _ fs]
      congr 1
      by_cases h : f ∈ acc
      · rw [if_pos h, if_pos (List.mem_filter.mpr ⟨h, c⟩)]
      · rw [if_neg h, if_neg fun z => h (List.mem_filter.mp z).1, List.filter_append]
        simp [c]
    · rw [List.filter_cons_of_neg c, ← onceA_filter p _ fs]
      congr 1
      split
      · rfl
      · rw [List.filter_append]
        simp [c]
theorem once_filter (p : Fm → Bool) (L : List Fm) : once (L.filter p) = (once L).filter p := onceA_filter p [] L
theorem onceA_len : ∀ (acc L : List Fm), (onceA acc L).length ≤ acc.length + L.length
  | acc, [] => by simp [onceA]
  | acc, f :: fs => by
    rw [onceA]
    have := onceA_len (if f ∈ acc then acc else acc ++ [f]) fs
    have e : (if f ∈ acc then acc else acc ++ [f]).length ≤ acc.length + 1 := by
      split
      · omega
      · simp
    rw [List.length_cons]
    omega
theorem once_len (L : List Fm) : (once L).length ≤ L.length := by
  have := onceA_len [] L
  simpa [once] using this
theorem wordsS_app (A B : List Fm) : wordsS (A ++ B) = wordsS A + wordsS B := by unfold wordsS; rw [List.map_append, List.sum_append]
theorem wordsS_cons (f : Fm) (B : List Fm) : wordsS (f :: B) = f.size + wordsS B := rfl
theorem wordsS_nil : wordsS [] = 0 := rfl
theorem onceA_words : ∀ (acc L : List Fm), wordsS (onceA acc L) ≤ wordsS acc + wordsS L
  | acc, [] => by simp [onceA, wordsS_nil]
  | acc, f :: fs => by
    rw [onceA]
    have := onceA_words (if f ∈ acc then acc else acc ++ [f]) fs
    have e : wordsS (if f ∈ acc then acc else acc ++ [f]) ≤ wordsS acc + f.size := by
      split
      · omega
      · rw [wordsS_app, wordsS_cons, wordsS_nil]; omega
    rw [wordsS_cons]
    omega
theorem once_words (L : List Fm) : wordsS (once L) ≤ wordsS L := by
  have := onceA_words [] L
  rw [wordsS_nil] at this
  unfold once
  omega
theorem onceA_dup {acc L : List Fm} (h : (onceA acc L).length = acc.length + L.length) (ha : acc.Nodup) : (acc ++ L).Nodup := by
  induction L generalizing acc with
  | nil => simpa using ha
  | cons f fs ih =>
    rw [onceA] at h
    by_cases c : f ∈ acc
    · rw [if_pos c] at h
      have := onceA_len acc fs
      rw [List.length_cons] at h
      omega
    · rw [if_neg c] at h
      have h2 : (acc ++ [f]).Nodup := by
        rw [List.nodup_append]
        refine ⟨ha, by simp, fun a ha b hb e => ?_⟩
        rw [List.mem_singleton.mp hb] at e
        exact c (e ▸ ha)
      have := ih (by rw [h, List.length_append, List.length_cons, List.length_singleton]; omega) h2
      simpa using this
/-- as long as before just where nothing stood twice -/
theorem once_len_iff (L : List Fm) : (once L).length = L.length ↔ L.Nodup := by
  constructor
  · intro h
    have := onceA_dup (acc := []) (L := L) (by simpa [once] using h) List.nodup_nil
    simpa using this
  · intro h
    rw [once_of_nodup h]
theorem gd_once {L : List Fm} (h : Gd L) : Gd (once L) := fun f hf => h f (mem_once.mp hf)
theorem gd_app {L R : List Fm} (h : Gd L) (k : Gd R) : Gd (L ++ R) := fun f hf => (List.mem_append.mp hf).elim (h f) (k f)
theorem gd_filter {L : List Fm} (h : Gd L) (p : Fm → Bool) : Gd (L.filter p) := fun f hf => h f (List.mem_filter.mp hf).1
theorem gd_nil : Gd [] := fun _ h => nomatch h
theorem gd_one {f : Fm} (h : f.good) (k : f.dep ≤ 12) : Gd [f] := fun g hg => by rw [List.mem_singleton.mp hg]; exact ⟨h, k⟩
theorem gd_cons {f : Fm} {L : List Fm} (h : f.good) (k : f.dep ≤ 12) (r : Gd L) : Gd (f :: L) := fun g hg => by
  rcases List.mem_cons.mp hg with rfl | hg
  · exact ⟨h, k⟩
  · exact r g hg
theorem gd_sub {L R : List Fm} (h : Gd R) (s : ∀ f ∈ L, f ∈ R) : Gd L := fun f hf => h f (s f hf)
def without (L : List Fm) (f : Fm) : List Fm := L.filter fun g => !decide (g = f)
theorem mem_without {L : List Fm} {f g : Fm} : g ∈ without L f ↔ g ∈ L ∧ g ≠ f := by unfold without; rw [List.mem_filter]; simp
/-! ### what rules put in -/
abbrev Cl := List Fm × List Fm
def Fm.isSg : Fm → Bool
  | .sg _ => true
  | _ => false
def putL : Fm → List Cl
  | .sg _ => []
  | .no g => [([], [g])]
  | .bi .an g h => [([g, h], [])]
  | .bi .o g h => [([g], []), ([h], [])]
  | .bi .th g h => [([], [g]), ([h], [])]
def putR : Fm → List Cl
  | .sg _ => []
  | .no g => [([g], [])]
  | .bi .an g h => [([], [g]), ([], [h])]
  | .bi .o g h => [([], [g, h])]
  | .bi .th g h => [([g], [h])]
/-- the rules but more -/
inductive Wd where
  | same | left | right | lem
  deriving DecidableEq
def Wd.txt : Wd → Str
  | .same => "same"
  | .left => "left"
  | .right => "right"
  | .lem => "lemma"
theorem wtxt_inj : ∀ {a b : Wd}, a.txt = b.txt → a = b := by
  intro a b h
  cases a <;> cases b <;> first | rfl | exact absurd h (by decide +kernel)
theorem wtxt_more : ∀ a : Wd, ¬ a.txt = ("more" : Str) := by intro a; cases a <;> decide +kernel
def putIn : Wd → Fm → List Cl
  | .same, _ => []
  | .left, f => putL f
  | .right, f => putR f
  | .lem, f => [([], [f]), ([f], [])]
def outOf : Wd → Wd → List Fm → Fm → List Fm
  | w, v, L, f => if w = v then without L f else L
/-- what a rule but more leads to -/
def led (c : Cl) (w : Wd) (f : Fm) : List Cl := (putIn w f).map fun p => (once (outOf w .left c.1 f ++ p.1), once (outOf w .right c.2 f ++ p.2))
inductive Ru where
  | fm (w : Wd) (f : Fm)
  | more (c : Cl)
def Cl.toD (c : Cl) : PyData := cD c.1 c.2
def Ru.toD : Ru → PyData
  | .fm w f => .tuple [.str w.txt, f.toD]
  | .more c => .tuple [.str ("more" : Str), cD c.1 c.2]
def wordsC (c : Cl) : Nat := wordsS c.1 + wordsS c.2
def GdC (c : Cl) : Prop := Gd c.1 ∧ Gd c.2
/-- a rule, as the program takes it -/
def Ru.ok : Ru → Prop
  | .fm _ f => f.good ∧ f.dep ≤ 12
  | .more c => GdC c ∧ wordsC c ≤ 60
def Sub (a b : Cl) : Prop := (∀ f ∈ a.1, f ∈ b.1) ∧ ∀ f ∈ a.2, f ∈ b.2
instance (a b : Cl) : Decidable (Sub a b) := by unfold Sub; exact inferInstance
def fits (c : Cl) : Ru → Bool
  | .fm .same f => decide (f ∈ c.1) && decide (f ∈ c.2)
  | .fm .left f => decide (f ∈ c.1) && !f.isSg
  | .fm .right f => decide (f ∈ c.2) && !f.isSg
  | .fm .lem _ => true
  | .more m => decide (Sub m c)
def wants (c : Cl) : Ru → List Cl
  | .fm w f => led c w f
  | .more m => [(once m.1, once m.2)]
/-- two claims alike -/
def Alike (a b : Cl) : Prop := SameF a.1 b.1 ∧ SameF a.2 b.2
end Lm
set_option Elab.async false
set_option linter.all false
set_option maxRecDepth 100000
set_option maxHeartbeats 400000
namespace Lm
open PySem PySem.Spec PyProof.Rows L2
/-- formulas as data -/
def lsD (L : List Fm) : PyData := .list (L.map Fm.toD)
/-- no deeper than data may be compared -/
def Sh (L : List Fm) : Prop := ∀ f ∈ L, f.dep ≤ 60
theorem Gd.sh {L : List Fm} (h : Gd L) : Sh L := fun f hf => Nat.le_trans (h f hf).2 (by decide)
theorem sh_once {L : List Fm} (h : Sh L) : Sh (once L) := fun f hf => h f (mem_once.mp hf)
theorem sh_take {L : List Fm} (h : Sh L) (n : Nat) : Sh (L.take n) := fun f hf => h f (List.mem_of_mem_take hf)
theorem sh_app {L R : List Fm} (h : Sh L) (k : Sh R) : Sh (L ++ R) := fun f hf => (List.mem_append.mp hf).elim (h f) (k f)
theorem sh_shaped {L : List Fm} (h : Sh L) : SeqAt.shaped (lsD L) = true := shaped_fms L fun f hf => Nat.le_trans (h f hf) (by decide)
theorem sh_fm {L : List Fm} (h : Sh L) {f : Fm} (hf : f ∈ L) : SeqAt.shaped f.toD = true := shaped_fm f (Nat.le_trans (h f hf) (by decide))
def gEach (ds es : List PyData) : Prop := ∃ L : List Fm, ds = [lsD L] ∧ Sh L ∧ L.length ≤ 1000 ∧ es = (once L).map Fm.toD
theorem once_take {L : List Fm} {i : Nat} {x : Fm} (h : L[i]? = some x) : once (L.take (i + 1)) = if x ∈ once (L.take i) then once (L.take i) else once (L.take i) ++ [x] := by
  rw [List.take_succ, h, Option.toList_some]
  unfold once
  rw [onceA_app]
  rfl
section
variable {P : Program} {w : World} {K : PySem.W.Frag} {mg : Str → Option Value} {base : Heap} {f : Addr} {fd : FuncData}
theorem scEachOnce : FnScope ["side", "told", "f"] ["side"] (defScope sEachOnce) := ⟨rfl, rfl, rfl, by decide +kernel, rfl, by decide +kernel, by decide +kernel⟩
theorem ok_eachOnce (D : Df K mg "each_once" sEachOnce ["side"] f fd) : FnOk P w K mg base CX0 1 f fd ["side"] (spOwn K 1 gEach) := by
  refine ok_own D scEachOnce fun cdv A outer s H E hr => ?_
  have hu : (A.deeper (envOfC "each_once" (defScope sEachOnce) s.heap.objs.size f cdv)).units + 65 < cLine := by have := hr.un; omega
  refine ⟨_, (pss_cons (ps_set (i := 1) scEachOnce.nd rfl (by first | exact Or.inl rfl | exact Or.inr rfl) (pe_lst pa_nil))
    (pss_cons (ps_for PassesOwn.never rfl (pi_list (pv 0)) (pg_name (i := 2) scEachOnce.nd rfl (by first | exact Or.inl rfl | exact Or.inr rfl)) (pss_one (ps_if (pt_cmpR (r := rNotInD K) (op_notInD hu) (pv 2) (pv 1) (by rfl)) (pss_one (ps_expr (pe_bm PySem.F.plainAttrs_list PySem.F.slot_list_append PySem.F.type_list_append mt_append (pv 1) (pa_cons (pv 2) pa_nil)))) pss_nil)))
    (pss_one (ps_ret (pv 1))))), ?_⟩
  rintro ds es hl ⟨L, rfl, hs, hn, rfl⟩
  refine puo_new (ds := []) pu_nil (by decide) ?_
  refine puo_seq (ρ' := [some (.d (lsD L)), some (.o ((once L).map Fm.toD)), none]) ?_ (puo_retO rfl)
  refine puo_for (xs := L) (td := Fm.toD) (k := L.length) (fun i => [some (.d (lsD L)), some (.o ((once (L.take i)).map Fm.toD)), none]) (pui_list (pu_var rfl)) rfl (Nat.le_refl _) (fun i x _ hx => ⟨_, pgo_name 2, .inl ?_⟩) (.inl ⟨rfl, by rw [List.take_length]⟩)
  have len := Nat.le_trans (once_len (L.take i)) (by rw [List.length_take]; omega : (L.take i).length ≤ 1000)
  refine puo_forget (ρ' := [some (.d (lsD L)), some (.o ((once (L.take (i + 1))).map Fm.toD)), some (.d x.toD)]) 2 ?_
  refine puo_if (pu_tTest (pu_notInD (d := x.toD) (ds := (once (L.take i)).map Fm.toD) (pu_var rfl) (pu_var rfl) (sh_fm hs (List.mem_of_getElem? hx)) (sh_shaped (sh_once (sh_take hs i))))) (fun c => ?_) (fun c => ?_)
  · rw [any_fm] at c
    have c : ¬ x ∈ once (L.take i) := by simpa using c
    rw [once_take hx, if_neg c, List.map_append]
    exact puo_append (i := 1) rfl (by rw [List.length_map]; omega) (pu_var rfl)
  · rw [any_fm] at c
    have c : x ∈ once (L.take i) := by simpa using c
    rw [once_take hx, if_pos c]
    exact puo_next
/-! ### claims told once, side in side -/
theorem scAllIn : FnScope ["some", "side", "f"] ["some", "side"] (defScope sAllIn) := ⟨rfl, rfl, rfl, by decide +kernel, rfl, by decide +kernel, by decide +kernel⟩
def gAllIn (ds : List PyData) (d : PyData) : Prop := ∃ L R : List Fm, ds = [lsD L, lsD R] ∧ Sh L ∧ Sh R ∧ L.length ≤ 1000 ∧ d = .bool (decide (∀ f ∈ L, f ∈ R))
theorem all_dec (L : List Fm) (p : Fm → Bool) : (L.map p).all id = decide (∀ f ∈ L, p f = true) := by
  rw [Bool.eq_iff_iff, decide_eq_true_eq, List.all_map, List.all_eq_true]
  exact Iff.rfl
theorem ok_allIn (D : Df K mg "_all_stand_in" sAllIn ["some", "side"] f fd) (B : Blt mg) : FnOk P w K mg base CX0 1 f fd ["some", "side"] (spPu K 2 gAllIn) := by
  refine ok_pu D scAllIn fun cdv A outer s H E hr => ?_
  have hu : (A.deeper (envOfC "_all_stand_in" (defScope sAllIn) s.heap.objs.size f cdv)).units + 65 < cLine := by have := hr.un; omega
  refine ⟨_, (pss_one (ps_ret (pe_callB (r := rAll K) (cr_all rfl) (by rfl) B.all bt_all (pa_cons (pe_lc (own := [("f", 2)]) (g := gName 2) (tt := tYes) rfl scAllIn.nd (pi_list (pv 0)) (blkOk_by (N := ["some", "side", "f"]) (sc := defScope sAllIn) (by decide +kernel)) (fun _ _ _ _ _ => (pg_name (i := 2) scAllIn.nd rfl (by first | exact Or.inl rfl | exact Or.inr rfl))) (fun _ _ _ _ _ => pts_nil) (fun _ _ _ _ _ => (pe_cmpR (r := rInD K) (op_inD hu) (pv 2) (pv 1) (by rfl)))) pa_nil)))), ?_⟩
  rintro ds d hl ⟨L, R, rfl, hs, hr, hn, rfl⟩
  refine .inl (pus_ret ?_)
  have e : decide (∀ f ∈ L, f ∈ R) = (L.map fun f => decide (f ∈ R)).all id := by
    rw [all_dec]
    exact decide_eq_decide.mpr ⟨fun h f hf => decide_eq_true (h f hf), fun h f hf => of_decide_eq_true (h f hf)⟩
  rw [e]
  refine pu_all ?_
  rw [List.map_map]
  refine pu_map (xs := L) (td := Fm.toD) (pui_list (pu_var rfl)) (by omega) _ fun x hx => ?_
  refine (pu_inD (d := x.toD) (ds := R.map Fm.toD) (pu_var rfl) (pu_var rfl) (sh_fm hs hx) (sh_shaped hr)).cast ?_
  rw [any_fm]
  rfl
theorem scStandsIn : FnScope ["one", "other"] ["one", "other"] (defScope sStandsIn) := ⟨rfl, rfl, rfl, by decide +kernel, rfl, by decide +kernel, by decide +kernel⟩
/-- a claim, of no more than so many, nor too deep -/
def LowC (c : Cl) : Prop := Sh c.1 ∧ Sh c.2 ∧ c.1.length ≤ 1000 ∧ c.2.length ≤ 1000
def gStandsIn (ds : List PyData) (d : PyData) : Prop := ∃ a b : Cl, ds = [a.toD, b.toD] ∧ LowC a ∧ LowC b ∧ d = .bool (decide (Sub a b))
theorem cix0 (a : Cl) : atI [lsD a.1, lsD a.2] 0 = some (lsD a.1) := atI_nat (j := 0) rfl
theorem cix1 (a : Cl) : atI [lsD a.1, lsD a.2] 1 = some (lsD a.2) := atI_nat (j := 1) rfl
theorem pu_cl {te : TE} {ρ : Rho} {a : Cl} (h : PuE K te ρ a.toD) : PuE K te ρ (.tuple [lsD a.1, lsD a.2]) := h
theorem ok_standsIn (D : Df K mg "stands_in" sStandsIn ["one", "other"] f fd) (h_all_stand_in : Has P w K mg base 1 "_all_stand_in" ["some", "side"] (spPu K 2 gAllIn)) : FnOk P w K mg base CX0 2 f fd ["one", "other"] (spPu K 2 gStandsIn) := by
  refine ok_pu D scStandsIn fun cdv A outer s H E hr => ?_
  refine ⟨_, (pss_one (ps_ret (pe_and (pe_callH h_all_stand_in (hr.mono (by omega)) (by rfl) (pa_cons (pe_ix (r := rIxT K) ix_tup (pv 0) pe_int (fun _ _ => rfl)) (pa_cons (pe_ix (r := rIxT K) ix_tup (pv 1) pe_int (fun _ _ => rfl)) pa_nil))) (pe_one (pe_callH h_all_stand_in (hr.mono (by omega)) (by rfl) (pa_cons (pe_ix (r := rIxT K) ix_tup (pv 0) pe_int (fun _ _ => rfl)) (pa_cons (pe_ix (r := rIxT K) ix_tup (pv 1) pe_int (fun _ _ => rfl)) pa_nil))))))), ?_⟩
  rintro ds d hl ⟨a, b, rfl, ha, hb, rfl⟩
  refine .inl (pus_ret ?_)
  have e : decide (Sub a b) = (decide (∀ f ∈ a.1, f ∈ b.1) && decide (∀ f ∈ a.2, f ∈ b.2)) := by
    rw [← Bool.decide_and]
    exact decide_eq_decide.mpr Iff.rfl
  rw [e]
  have va : PuE K (tVar 0) (startD ["one", "other"] [a.toD, b.toD]) (.tuple [lsD a.1, lsD a.2]) := pu_var rfl
  have vb : PuE K (tVar 1) (startD ["one", "other"] [a.toD, b.toD]) (.tuple [lsD b.1, lsD b.2]) := pu_var rfl
  exact pu_and (pu_call (pu_cons (pu_ixT va (pu_int 0) (cix0 a)) (pu_cons (pu_ixT vb (pu_int 0) (cix0 b)) pu_nil)) rfl ⟨a.1, b.1, rfl, ha.1, hb.1, ha.2.2.1, rfl⟩)
    fun _ => pu_call (pu_cons (pu_ixT va (pu_int 1) (cix1 a)) (pu_cons (pu_ixT vb (pu_int 1) (cix1 b)) pu_nil)) rfl ⟨a.2, b.2, rfl, ha.2.1, hb.2.1, ha.2.2.2, rfl⟩
/-- a claim of new lists -/
def NewCl (K : PySem.W.Frag) (H0 H : Hp) (v : V) (c : Cl) : Prop := ∃ (t a b : Addr) (xs ys : List V), v = .ref t ∧ SqT K H t [.ref a, .ref b] ∧ H0 a = none ∧ H0 b = none ∧ H a = some (.lst xs) ∧ H b = some (.lst ys) ∧ DpAll K H xs (c.1.map Fm.toD) ∧ DpAll K H ys (c.2.map Fm.toD)
theorem NewCl.same {H0 H H' : Hp} {v : V} {c : Cl} (h : NewCl K H0 H v c) (e : Same H H') : NewCl K H0 H' v c := by
  obtain ⟨t, a, b, xs, ys, h1, h2, h3, h4, h5, h6, h7, h8⟩ := h
  exact ⟨t, a, b, xs, ys, h1, sqT_same e h2, h3, h4, e _ _ h5, e _ _ h6, dpAll_same e _ _ h7, dpAll_same e _ _ h8⟩
theorem NewCl.older {H00 H0 H : Hp} {v : V} {c : Cl} (h : NewCl K H0 H v c) (e : Same H00 H0) : NewCl K H00 H v c := by
  have old : ∀ p, H0 p = none → H00 p = none := fun p n => by
    cases z : H00 p with
    | none => rfl
    | some u => rw [e _ _ z] at n; cases n
  obtain ⟨t, a, b, xs, ys, h1, h2, h3, h4, h5⟩ := h
  exact ⟨t, a, b, xs, ys, h1, h2, old a h3, old b h4, h5⟩
theorem NewCl.vis {M : Addr → Bool} {H0 H : Hp} {v : V} {c : Cl} (hid : Hid M H0) (e : Same H0 H) (h : NewCl K H0 H v c) : Dp K (Lm.vis M H) v c.toD := by
  obtain ⟨t, a, b, xs, ys, rfl, h2, h3, h4, h5, h6, h7, h8⟩ := h
  have tk := (hid.same e).tk (K := K)
  have va : Lm.vis M H a = some (.lst xs) := by
    unfold Lm.vis
    rw [hid.non h3, if_neg Bool.false_ne_true]
    exact h5
  have vb : Lm.vis M H b = some (.lst ys) := by
    unfold Lm.vis
    rw [hid.non h4, if_neg Bool.false_ne_true]
    exact h6
  exact .tup (tk _ _ h2) (.cons (.lst (SqL.of va) (fms_keep tk _ _ h7)) (.cons (.lst (SqL.of vb) (fms_keep tk _ _ h8)) .nil))
theorem NewCl.dp {H0 H : Hp} {v : V} {c : Cl} (h : NewCl K H0 H v c) : Dp K H v c.toD := by
  obtain ⟨t, a, b, xs, ys, rfl, h2, h3, h4, h5, h6, h7, h8⟩ := h
  exact .tup h2 (.cons (.lst (SqL.of h5) h7) (.cons (.lst (SqL.of h6) h8) .nil))
def spToldOnce (K : PySem.W.Frag) : Sp := fun vs H Q _ => ∃ (v : V) (c : Cl), vs = [v] ∧ Dp K H v c.toD ∧ LowC c ∧ ∀ v' H', Same H H' → NewCl K H H' v' (once c.1, once c.2) → Q v' H'
/-- as each_once is called from elsewhere -/
theorem each_at {M : Addr → Bool} {H : Hp} {a : Addr} {xs : List V} {L : List Fm} {Q : VK} (hid : Hid M H) (ha : SqL K (Lm.vis M H) a xs) (hx : DpAll K (Lm.vis M H) xs (L.map Fm.toD)) (hs : Sh L) (hn : L.length ≤ 1000)
    (q : ∀ p ys H', Same H H' → H p = none → H' p = some (.lst ys) → DpAll K H' ys ((once L).map Fm.toD) → Q (.ref p) H') : spOwn K 1 gEach [.ref a] H Q E0 := by
  refine ⟨M, [lsD L], _, hid, rfl, .cons (.lst ha hx) .nil, ⟨L, rfl, hs, hn, rfl⟩, fun p ys H' e n hp hy => q p ys H' e n hp (dpAll_same vis_sub _ _ hy)⟩
theorem each_at0 {H : Hp} {a : Addr} {xs : List V} {L : List Fm} {Q : VK} (ha : SqL K H a xs) (hx : DpAll K H xs (L.map Fm.toD)) (hs : Sh L) (hn : L.length ≤ 1000)
    (q : ∀ p ys H', Same H H' → H p = none → H' p = some (.lst ys) → DpAll K H' ys ((once L).map Fm.toD) → Q (.ref p) H') : spOwn K 1 gEach [.ref a] H Q E0 :=
  each_at (M := fun _ => false) Hid.none (by rw [vis_none]; exact ha) (by rw [vis_none]; exact hx) hs hn q
theorem scToldOnce : FnScope ["claim", "left", "right"] ["claim"] (defScope sToldOnce) := ⟨rfl, rfl, rfl, by decide +kernel, rfl, by decide +kernel, by decide +kernel⟩
theorem ok_toldOnce (D : Df K mg "told_once" sToldOnce ["claim"] f fd) (h_each_once : Has P w K mg base 1 "each_once" ["side"] (spOwn K 1 gEach)) : FnOk P w K mg base CX0 2 f fd ["claim"] (spToldOnce K) := by
  refine D.fn.ok scToldOnce (fun vs H Q E h => ?_) (fun cdv A outer s H vs Q E hr h => ?_)
  · obtain ⟨v, c, rfl, _⟩ := h
    rfl
  obtain ⟨v, c, rfl, hd, hc, q⟩ := h
  refine ⟨_, (pss_cons (ps_asg (pv 0) (pg_tup rfl (pgs_cons (pg_name (i := 1) scToldOnce.nd rfl (by first | exact Or.inl rfl | exact Or.inr rfl)) (pgs_cons (pg_name (i := 2) scToldOnce.nd rfl (by first | exact Or.inl rfl | exact Or.inr rfl)) pgs_nil))))
    (pss_one (ps_ret (pe_tup (pa_cons (pe_callH h_each_once (hr.mono (by omega)) (by rfl) (pa_cons (pv 1) pa_nil)) (pa_cons (pe_callH h_each_once (hr.mono (by omega)) (by rfl) (pa_cons (pv 2) pa_nil)) pa_nil)))))), ?_⟩
  obtain ⟨a, b, c', xs, zs, rfl, ht, hb, hc', db, dc⟩ := dp_claim hd
  refine ⟨.ref a, rfl, a, _, rfl, ht, rfl, .ref b, _, rfl, .ref c', _, rfl, rfl, ?_⟩
  refine ⟨.ref b, rfl, ?_⟩
  dsimp only [tCons, tCall, tNil]
  show spOwn K 1 gEach [.ref b] H _ E0
  refine each_at0 hb db hc.1 hc.2.2.1 fun p ys H1 e1 np hp hy => ?_
  refine ⟨.ref c', rfl, ?_⟩
  dsimp only [tCons, tCall, tNil]
  show spOwn K 1 gEach [.ref c'] H1 _ E0
  refine each_at0 (e1.seq hc') (dpAll_same e1 _ _ dc) hc.2.1 hc.2.2.2 fun p2 ys2 H2 e2 np2 hp2 hy2 => ?_
  refine ⟨sl1000 (by show 2 ≤ 100000; decide), fun t nt => ?_⟩
  have s3 := same_new nt (HO.tup [V.ref p, V.ref p2])
  have n2 : H p2 = none := by
    cases z : H p2 with
    | none => rfl
    | some u => rw [e1 _ _ z] at np2; cases np2
  exact q (.ref t) _ (e1.trans (e2.trans s3)) ⟨t, p, p2, ys, ys2, rfl, SqT.of upd_same, np, n2, s3 _ _ (e2 _ _ hp), s3 _ _ hp2, dpAll_same (e2.trans s3) _ _ hy, dpAll_same s3 _ _ hy2⟩
end
end Lm
set_option Elab.async false
set_option linter.all false
set_option maxRecDepth 100000
set_option maxHeartbeats 400000
namespace Lm
open PySem PySem.Spec PyProof.Rows L2
theorem tix0 (a b : PyData) (ds : List PyData) : atI (a :: b :: ds) 0 = some a := atI_nat (j := 0) rfl
theorem tix1 (a b : PyData) (ds : List PyData) : atI (a :: b :: ds) 1 = some b := atI_nat (j := 1) rfl
theorem tix2 (a b c : PyData) (ds : List PyData) : atI (a :: b :: c :: ds) 2 = some c := atI_nat (j := 2) rfl
def gPutL (ds : List PyData) (d : PyData) : Prop := ∃ f : Fm, ds = [f.toD] ∧ f.isSg = false ∧ d = .list ((putL f).map Cl.toD)
def gPutR (ds : List PyData) (d : PyData) : Prop := ∃ f : Fm, ds = [f.toD] ∧ f.isSg = false ∧ d = .list ((putR f).map Cl.toD)
def gPut (ds : List PyData) (d : PyData) : Prop := ∃ (w : Wd) (f : Fm), ds = [(Ru.fm w f).toD] ∧ ((w = .left ∨ w = .right) → f.isSg = false) ∧ d = .list ((putIn w f).map Cl.toD)
theorem w_oa : ¬ Bw.o.txt = ("and" : Str) := by decide +kernel
theorem w_ta : ¬ Bw.th.txt = ("and" : Str) := by decide +kernel
theorem w_to : ¬ Bw.th.txt = ("or" : Str) := by decide +kernel
section
variable {K : PySem.W.Frag} {ρ : Rho} {te : TE} {f g h : Fm} {w : Bw} {i : Nat}
theorem pu_l0 : PuE K (tLst tNil) ρ (lsD []) := pu_lst pu_nil (by simp)
theorem pu_l1 (k : PuE K te ρ f.toD) : PuE K (tLst (tCons te tNil)) ρ (lsD [f]) := pu_lst (pu_cons k pu_nil) (by simp)
theorem pu_l2 {tf : TE} (k : PuE K te ρ f.toD) (l : PuE K tf ρ g.toD) : PuE K (tLst (tCons te (tCons tf tNil))) ρ (lsD [f, g]) := pu_lst (pu_cons k (pu_cons l pu_nil)) (by simp)
theorem pu_c {ta tb : TE} {L R : List Fm} (k : PuE K ta ρ (lsD L)) (l : PuE K tb ρ (lsD R)) : PuE K (tTup (tCons ta (tCons tb tNil))) ρ (Cl.toD (L, R)) := pu_tup (pu_cons k (pu_cons l pu_nil)) (by simp)
theorem pu_cs1 {c : Cl} (k : PuE K te ρ c.toD) : PuE K (tLst (tCons te tNil)) ρ (.list ([c].map Cl.toD)) := pu_lst (pu_cons k pu_nil) (by simp)
theorem pu_cs2 {c d : Cl} {tf : TE} (k : PuE K te ρ c.toD) (l : PuE K tf ρ d.toD) : PuE K (tLst (tCons te (tCons tf tNil))) ρ (.list ([c, d].map Cl.toD)) := pu_lst (pu_cons k (pu_cons l pu_nil)) (by simp)
/-- f[1], f[2] of a formula in slot i -/
theorem pu_no1 (k : ρ[i]? = some (some (Fm.no g).toD)) : PuE K (tOp (rIxT K) (tVar i) (tC (.int 1))) ρ g.toD := pu_ixT (ds := [.str ("not" : Str), g.toD]) (pu_var k) (pu_int 1) (tix1 _ _ _)
theorem pu_bi1 (k : ρ[i]? = some (some (Fm.bi w g h).toD)) : PuE K (tOp (rIxT K) (tVar i) (tC (.int 1))) ρ g.toD := pu_ixT (ds := [.str w.txt, g.toD, h.toD]) (pu_var k) (pu_int 1) (tix1 _ _ _)
theorem pu_bi2 (k : ρ[i]? = some (some (Fm.bi w g h).toD)) : PuE K (tOp (rIxT K) (tVar i) (tC (.int 2))) ρ h.toD := pu_ixT (ds := [.str w.txt, g.toD, h.toD]) (pu_var k) (pu_int 2) (tix2 _ _ _ _)
/-- its word -/
def Fm.wd : Fm → Str
  | .sg _ => "sign"
  | .no _ => "not"
  | .bi w _ _ => w.txt
theorem pu_fm0 (k : ρ[i]? = some (some f.toD)) : PuE K (tOp (rIxT K) (tVar i) (tC (.int 0))) ρ (.str f.wd) := by
  cases f with
  | sg j => exact pu_ixT (ds := [.str ("sign" : Str), .int j]) (pu_var k) (pu_int 0) (tix0 _ _ _)
  | no g => exact pu_ixT (ds := [.str ("not" : Str), g.toD]) (pu_var k) (pu_int 0) (tix0 _ _ _)
  | bi w g h => exact pu_ixT (ds := [.str w.txt, g.toD, h.toD]) (pu_var k) (pu_int 0) (tix0 _ _ _)
theorem wd_sg (f : Fm) : decide (f.wd = ("sign" : Str)) = f.isSg := by
  cases f with
  | sg j => exact decide_eq_true rfl
  | no g => exact decide_eq_false (by show ¬ ("not" : Str) = ("sign" : Str); decide +kernel)
  | bi w g h => exact decide_eq_false (txt_sign w)
end
section
variable {P : Program} {w : World} {K : PySem.W.Frag} {mg : Str → Option Value} {base : Heap} {f : Addr} {fd : FuncData}
theorem scPutL : FnScope ["f", "word"] ["f"] (defScope sPutL) := ⟨rfl, rfl, rfl, by decide +kernel, rfl, by decide +kernel, by decide +kernel⟩
theorem ok_putL (D : Df K mg "_put_in_by_left" sPutL ["f"] f fd) : FnOk P w K mg base CX0 1 f fd ["f"] (spPu K 1 gPutL) := by
  refine ok_pu D scPutL fun cdv A outer s H E hr => ?_
  refine ⟨_, (pss_cons (ps_set (i := 1) scPutL.nd rfl (by first | exact Or.inl rfl | exact Or.inr rfl) (pe_ix (r := rIxT K) ix_tup (pv 0) pe_int (fun _ _ => rfl)))
    (pss_cons (ps_if (pt_cmpR op_eq (pv 1) pe_str (nomark _)) (pss_one (ps_ret (pe_lst (pa_cons (pe_tup (pa_cons (pe_lst pa_nil) (pa_cons (pe_lst (pa_cons (pe_ix (r := rIxT K) ix_tup (pv 0) pe_int (fun _ _ => rfl)) pa_nil)) pa_nil))) pa_nil)))) pss_nil)
    (pss_cons (ps_if (pt_cmpR op_eq (pv 1) pe_str (nomark _)) (pss_one (ps_ret (pe_lst (pa_cons (pe_tup (pa_cons (pe_lst (pa_cons (pe_ix (r := rIxT K) ix_tup (pv 0) pe_int (fun _ _ => rfl)) (pa_cons (pe_ix (r := rIxT K) ix_tup (pv 0) pe_int (fun _ _ => rfl)) pa_nil))) (pa_cons (pe_lst pa_nil) pa_nil))) pa_nil)))) pss_nil)
    (pss_cons (ps_if (pt_cmpR op_eq (pv 1) pe_str (nomark _)) (pss_one (ps_ret (pe_lst (pa_cons (pe_tup (pa_cons (pe_lst (pa_cons (pe_ix (r := rIxT K) ix_tup (pv 0) pe_int (fun _ _ => rfl)) pa_nil)) (pa_cons (pe_lst pa_nil) pa_nil))) (pa_cons (pe_tup (pa_cons (pe_lst (pa_cons (pe_ix (r := rIxT K) ix_tup (pv 0) pe_int (fun _ _ => rfl)) pa_nil)) (pa_cons (pe_lst pa_nil) pa_nil))) pa_nil))))) pss_nil)
    (pss_one (ps_ret (pe_lst (pa_cons (pe_tup (pa_cons (pe_lst pa_nil) (pa_cons (pe_lst (pa_cons (pe_ix (r := rIxT K) ix_tup (pv 0) pe_int (fun _ _ => rfl)) pa_nil)) pa_nil))) (pa_cons (pe_tup (pa_cons (pe_lst (pa_cons (pe_ix (r := rIxT K) ix_tup (pv 0) pe_int (fun _ _ => rfl)) pa_nil)) (pa_cons (pe_lst pa_nil) pa_nil))) pa_nil))))))))), ?_⟩
  rintro ds d hl ⟨g, rfl, hs, rfl⟩
  left
  cases g with
  | sg i => cases hs
  | no g =>
    refine pus_set (pu_fm0 (f := .no g) rfl) (pus_take (pu_eqS1 (pu_var rfl) (pu_str _) rfl) (pus_ret ?_))
    exact pu_cs1 (pu_c pu_l0 (pu_l1 (pu_no1 rfl)))
  | bi b g h =>
    refine pus_set (pu_fm0 (f := .bi b g h) rfl) (pus_skip (pu_eqS0 (pu_var rfl) (pu_str _) (txt_not b)) ?_)
    cases b with
    | an => exact pus_take (pu_eqS1 (pu_var rfl) (pu_str _) rfl) (pus_ret (pu_cs1 (pu_c (pu_l2 (pu_bi1 (w := .an) rfl) (pu_bi2 (w := .an) rfl)) pu_l0)))
    | o => exact pus_skip (pu_eqS0 (pu_var rfl) (pu_str _) w_oa) (pus_take (pu_eqS1 (pu_var rfl) (pu_str _) rfl) (pus_ret (pu_cs2 (pu_c (pu_l1 (pu_bi1 (w := .o) rfl)) pu_l0) (pu_c (pu_l1 (pu_bi2 (w := .o) rfl)) pu_l0))))
    | th => exact pus_skip (pu_eqS0 (pu_var rfl) (pu_str _) w_ta) (pus_skip (pu_eqS0 (pu_var rfl) (pu_str _) w_to) (pus_ret (pu_cs2 (pu_c pu_l0 (pu_l1 (pu_bi1 (w := .th) rfl))) (pu_c (pu_l1 (pu_bi2 (w := .th) rfl)) pu_l0))))
theorem scPutR : FnScope ["f", "word"] ["f"] (defScope sPutR) := ⟨rfl, rfl, rfl, by decide +kernel, rfl, by decide +kernel, by decide +kernel⟩
theorem ok_putR (D : Df K mg "_put_in_by_right" sPutR ["f"] f fd) : FnOk P w K mg base CX0 1 f fd ["f"] (spPu K 1 gPutR) := by
  refine ok_pu D scPutR fun cdv A outer s H E hr => ?_
  refine ⟨_, (pss_cons (ps_set (i := 1) scPutR.nd rfl (by first | exact Or.inl rfl | exact Or.inr rfl) (pe_ix (r := rIxT K) ix_tup (pv 0) pe_int (fun _ _ => rfl)))
    (pss_cons (ps_if (pt_cmpR op_eq (pv 1) pe_str (nomark _)) (pss_one (ps_ret (pe_lst (pa_cons (pe_tup (pa_cons (pe_lst (pa_cons (pe_ix (r := rIxT K) ix_tup (pv 0) pe_int (fun _ _ => rfl)) pa_nil)) (pa_cons (pe_lst pa_nil) pa_nil))) pa_nil)))) pss_nil)
    (pss_cons (ps_if (pt_cmpR op_eq (pv 1) pe_str (nomark _)) (pss_one (ps_ret (pe_lst (pa_cons (pe_tup (pa_cons (pe_lst pa_nil) (pa_cons (pe_lst (pa_cons (pe_ix (r := rIxT K) ix_tup (pv 0) pe_int (fun _ _ => rfl)) pa_nil)) pa_nil))) (pa_cons (pe_tup (pa_cons (pe_lst pa_nil) (pa_cons (pe_lst (pa_cons (pe_ix (r := rIxT K) ix_tup (pv 0) pe_int (fun _ _ => rfl)) pa_nil)) pa_nil))) pa_nil))))) pss_nil)
    (pss_cons (ps_if (pt_cmpR op_eq (pv 1) pe_str (nomark _)) (pss_one (ps_ret (pe_lst (pa_cons (pe_tup (pa_cons (pe_lst pa_nil) (pa_cons (pe_lst (pa_cons (pe_ix (r := rIxT K) ix_tup (pv 0) pe_int (fun _ _ => rfl)) (pa_cons (pe_ix (r := rIxT K) ix_tup (pv 0) pe_int (fun _ _ => rfl)) pa_nil))) pa_nil))) pa_nil)))) pss_nil)
    (pss_one (ps_ret (pe_lst (pa_cons (pe_tup (pa_cons (pe_lst (pa_cons (pe_ix (r := rIxT K) ix_tup (pv 0) pe_int (fun _ _ => rfl)) pa_nil)) (pa_cons (pe_lst (pa_cons (pe_ix (r := rIxT K) ix_tup (pv 0) pe_int (fun _ _ => rfl)) pa_nil)) pa_nil))) pa_nil)))))))), ?_⟩
  rintro ds d hl ⟨g, rfl, hs, rfl⟩
  left
  cases g with
  | sg i => cases hs
  | no g =>
    refine pus_set (pu_fm0 (f := .no g) rfl) (pus_take (pu_eqS1 (pu_var rfl) (pu_str _) rfl) (pus_ret ?_))
    exact pu_cs1 (pu_c (pu_l1 (pu_no1 rfl)) pu_l0)
  | bi b g h =>
    refine pus_set (pu_fm0 (f := .bi b g h) rfl) (pus_skip (pu_eqS0 (pu_var rfl) (pu_str _) (txt_not b)) ?_)
    cases b with
    | an => exact pus_take (pu_eqS1 (pu_var rfl) (pu_str _) rfl) (pus_ret (pu_cs2 (pu_c pu_l0 (pu_l1 (pu_bi1 (w := .an) rfl))) (pu_c pu_l0 (pu_l1 (pu_bi2 (w := .an) rfl)))))
    | o => exact pus_skip (pu_eqS0 (pu_var rfl) (pu_str _) w_oa) (pus_take (pu_eqS1 (pu_var rfl) (pu_str _) rfl) (pus_ret (pu_cs1 (pu_c pu_l0 (pu_l2 (pu_bi1 (w := .o) rfl) (pu_bi2 (w := .o) rfl))))))
    | th => exact pus_skip (pu_eqS0 (pu_var rfl) (pu_str _) w_ta) (pus_skip (pu_eqS0 (pu_var rfl) (pu_str _) w_to) (pus_ret (pu_cs1 (pu_c (pu_l1 (pu_bi1 (w := .th) rfl)) (pu_l1 (pu_bi2 (w := .th) rfl))))))
theorem scPutIn : FnScope ["rule", "word", "f"] ["rule"] (defScope sPutIn) := ⟨rfl, rfl, rfl, by decide +kernel, rfl, by decide +kernel, by decide +kernel⟩
theorem ok_putIn (D : Df K mg "put_in" sPutIn ["rule"] f fd) (h_put_in_by_left : Has P w K mg base 1 "_put_in_by_left" ["f"] (spPu K 1 gPutL)) (h_put_in_by_right : Has P w K mg base 1 "_put_in_by_right" ["f"] (spPu K 1 gPutR)) : FnOk P w K mg base CX0 2 f fd ["rule"] (spPu K 1 gPut) := by
  refine ok_pu D scPutIn fun cdv A outer s H E hr => ?_
  refine ⟨_, (pss_cons (ps_asg (pv 0) (pg_tup rfl (pgs_cons (pg_name (i := 1) scPutIn.nd rfl (by first | exact Or.inl rfl | exact Or.inr rfl)) (pgs_cons (pg_name (i := 2) scPutIn.nd rfl (by first | exact Or.inl rfl | exact Or.inr rfl)) pgs_nil))))
    (pss_cons (ps_if (pt_cmpR op_eq (pv 1) pe_str (nomark _)) (pss_one (ps_ret (pe_callH h_put_in_by_left (hr.mono (by omega)) (by rfl) (pa_cons (pv 2) pa_nil)))) pss_nil)
    (pss_cons (ps_if (pt_cmpR op_eq (pv 1) pe_str (nomark _)) (pss_one (ps_ret (pe_callH h_put_in_by_right (hr.mono (by omega)) (by rfl) (pa_cons (pv 2) pa_nil)))) pss_nil)
    (pss_cons (ps_if (pt_cmpR op_eq (pv 1) pe_str (nomark _)) (pss_one (ps_ret (pe_lst (pa_cons (pe_tup (pa_cons (pe_lst pa_nil) (pa_cons (pe_lst (pa_cons (pv 2) pa_nil)) pa_nil))) (pa_cons (pe_tup (pa_cons (pe_lst (pa_cons (pv 2) pa_nil)) (pa_cons (pe_lst pa_nil) pa_nil))) pa_nil))))) pss_nil)
    (pss_one (ps_ret (pe_lst pa_nil))))))), ?_⟩
  rintro ds d hl ⟨v, g, rfl, hs, rfl⟩
  left
  refine pus_asg (d := .tuple [.str v.txt, g.toD]) (pu_var rfl) (pug_two 1 2) ?_
  cases v with
  | left => exact pus_take (pu_eqS1 (pu_var rfl) (pu_str _) rfl) (pus_ret (pu_call (pu_cons (pu_var rfl) pu_nil) rfl ⟨g, rfl, hs (.inl rfl), rfl⟩))
  | right => exact pus_skip (pu_eqS0 (pu_var rfl) (pu_str _) (by decide +kernel)) (pus_take (pu_eqS1 (pu_var rfl) (pu_str _) rfl) (pus_ret (pu_call (pu_cons (pu_var rfl) pu_nil) rfl ⟨g, rfl, hs (.inr rfl), rfl⟩)))
  | lem => exact pus_skip (pu_eqS0 (pu_var rfl) (pu_str _) (by decide +kernel)) (pus_skip (pu_eqS0 (pu_var rfl) (pu_str _) (by decide +kernel)) (pus_take (pu_eqS1 (pu_var rfl) (pu_str _) rfl) (pus_ret (pu_cs2 (pu_c pu_l0 (pu_l1 (pu_var rfl))) (pu_c (pu_l1 (pu_var rfl)) pu_l0)))))
  | same => exact pus_skip (pu_eqS0 (pu_var rfl) (pu_str _) (by decide +kernel)) (pus_skip (pu_eqS0 (pu_var rfl) (pu_str _) (by decide +kernel)) (pus_skip (pu_eqS0 (pu_var rfl) (pu_str _) (by decide +kernel)) (pus_ret (pu_lst (ds := []) pu_nil (by decide)))))
end
/-! ### new claims -/
/-- the expression gives a claim of new lists -/
def NwE (K : PySem.W.Frag) (te : TE) (ρ : Rho) (c : Cl) : Prop := ∀ (M : Addr → Bool) σ H, Hid M H → EnvD K (vis M H) σ ρ → ∀ Q : VK, (∀ v H', Same H H' → NewCl K H H' v c → Q v H') → te σ H Q
/-- .. a new list of such -/
def NwL (K : PySem.W.Frag) (te : TE) (ρ : Rho) (cs : List Cl) : Prop := ∀ (M : Addr → Bool) σ H, Hid M H → EnvD K (vis M H) σ ρ → ∀ Q : VK, (∀ p ys H', Same H H' → H p = none → H' p = some (.lst ys) → Paired (NewCl K (upd H p (.lst [])) H') ys cs → Q (.ref p) H') → te σ H Q
section
variable {K : PySem.W.Frag} {ρ ρ' : Rho} {te ta tb : TE} {wi : TI} {g : TG} {vs : List Nat}
theorem nw_tup {A B : List Fm} (h : PuE K ta ρ (lsD A)) (k : PuE K tb ρ (lsD B)) (sa : Sh A) (sb : Sh B) (la : A.length ≤ 1000) (lb : B.length ≤ 1000) :
    NwE K (tTup (tCons (tCall (spOwn K 1 gEach) [] E0 (tCons ta tNil)) (tCons (tCall (spOwn K 1 gEach) [] E0 (tCons tb tNil)) tNil))) ρ (once A, once B) := fun M σ H hid en Q q => by
  refine h M σ H hid en _ fun v H1 e1 hv => ?_
  obtain ⟨a, xs, rfl, ha, hx⟩ := dp_lstI hv
  dsimp only [tCons, tCall, tNil]
  show spOwn K 1 gEach [.ref a] H1 _ E0
  refine each_at (hid.same e1) ha hx sa la fun p ys H2 e2 np hp hy => ?_
  refine k M σ H2 (hid.same (e1.trans e2)) (en.same (vis_same (e1.trans e2))) _ fun v' H3 e3 hv' => ?_
  obtain ⟨b, zs, rfl, hb, hz⟩ := dp_lstI hv'
  try dsimp only [tCons, tCall, tNil]
  show spOwn K 1 gEach [.ref b] H3 _ E0
  refine each_at (hid.same (e1.trans (e2.trans e3))) hb hz sb lb fun p2 ys2 H4 e4 np2 hp2 hy2 => ?_
  refine ⟨sl1000 (by show 2 ≤ 100000; decide), fun t nt => ?_⟩
  have s5 := same_new nt (HO.tup [V.ref p, V.ref p2])
  have n1 : ∀ {Ha Hb : Hp} {r : Addr}, Same Ha Hb → Hb r = none → Ha r = none := fun {Ha Hb r} e n => by
    cases z : Ha r with
    | none => rfl
    | some u => rw [e _ _ z] at n; cases n
  exact q (.ref t) _ (e1.trans (e2.trans (e3.trans (e4.trans s5)))) ⟨t, p, p2, ys, ys2, rfl, SqT.of upd_same, n1 e1 np, n1 (e1.trans (e2.trans e3)) np2, s5 _ _ (e4 _ _ (e3 _ _ hp)), s5 _ _ hp2, dpAll_same (e3.trans (e4.trans s5)) _ _ hy, dpAll_same s5 _ _ hy2⟩
theorem newcl_upd {H0 H : Hp} {D : Addr} {xs zs : List V} {v : V} {c : Cl} (hD : H0 D = some (.lst zs)) (hD2 : H D = some (.lst xs)) (o : HO) (h : NewCl K H0 H v c) : NewCl K H0 (upd H D o) v c := by
  obtain ⟨t, a, b, ys, ys2, h1, h2, h3, h4, h5, h6, h7, h8⟩ := h
  have tk : Tk K H (upd H D o) := Tk.of_but (But.upd D H o) (.inl ⟨_, hD2⟩)
  have na : a ≠ D := fun z => by rw [z, hD] at h3; cases h3
  have nb : b ≠ D := fun z => by rw [z, hD] at h4; cases h4
  exact ⟨t, a, b, ys, ys2, h1, tk _ _ h2, h3, h4, by rw [upd_ne na]; exact h5, by rw [upd_ne nb]; exact h6, fms_keep tk _ _ h7, fms_keep tk _ _ h8⟩
theorem paired_imp {α β : Type} {R S : α → β → Prop} (h : ∀ a b, R a b → S a b) : ∀ {l : List α} {m : List β}, Paired R l m → Paired S l m
  | _, _, .nil => .nil
  | _, _, .cons a t => .cons (h _ _ a) (paired_imp h t)
theorem paired_snoc {α β : Type} {R : α → β → Prop} {a : α} {b : β} (h : R a b) : ∀ {l : List α} {m : List β}, Paired R l m → Paired R (l ++ [a]) (m ++ [b])
  | _, _, .nil => .cons h .nil
  | _, _, .cons x t => .cons x (paired_snoc h t)
theorem same_upd2 {H H' : Hp} {p : Addr} {o : HO} (e : Same H H') : Same (upd H p o) (upd H' p o) := fun b u h => by
  by_cases z : b = p
  · rw [z, upd_same] at h ⊢
    exact h
  · rw [upd_ne z] at h ⊢
    exact e b u h
theorem nw_lc {α : Type} {xs : List α} {td : α → PyData} (hi : PuI K wi ρ (xs.map td)) (hl : xs.length ≤ 90000) (f : α → Cl) (hb : ∀ x ∈ xs, ∃ ρ', PuG K g vs (wipeR ρ vs) (td x) ρ' ∧ NwE K te ρ' (f x)) (hw : ∀ σ : L2.St, wipe (wipe σ vs) vs = wipe σ vs) :
    NwL K (tLc wi g tYes te vs) ρ (xs.map f) := fun M σ H hid en Q q => hi M σ H hid en _ fun J H1 e1 it D nD => by
  have hid1 := hid.same e1
  generalize hM' : (fun b => M b || b == D) = M'
  have mD : M' D = true := by rw [← hM']; simp
  have older : ∀ {Hn v c}, NewCl K (upd H1 D (.lst [])) Hn v c → NewCl K (upd H D (.lst [])) Hn v c := fun z => z.older (same_upd2 e1)
  have nHD : H D = none := by
    cases z : H D with
    | none => rfl
    | some u => rw [e1 _ _ z] at nD; cases nD
  refine ⟨fun i m Hn => m = xs.length - i ∧ i ≤ xs.length ∧ Same H1 Hn ∧ ∃ acc, Hn D = some (.lst acc) ∧ acc.length ≤ i ∧ (∀ p, p ≠ D → Hn p = none → H1 p = none) ∧ Paired (NewCl K (upd H1 D (.lst [])) Hn) acc ((xs.take i).map f), ⟨_, rfl, Nat.zero_le _, same_new nD _, [], upd_same, Nat.le_refl _, fun p ne n => by rw [upd_ne ne] at n; exact n, ?_⟩, ?_⟩
  · rw [List.take_zero]
    exact .nil
  · rintro i m Hn ⟨rfl, ile, s, acc, hD, al, fr, ha⟩
    have sv : Same (vis M H1) (vis M' Hn) := by
      rw [← hM']
      exact same_vis_or nD s
    have hidn : Hid M' Hn := by
      rw [← hM']
      exact hid_or (hid1.same s) hD
    by_cases c : i < xs.length
    · have hx : xs[i]? = some xs[i] := List.getElem?_eq_getElem c
      refine .inr ⟨it.go i Hn (sv.trans vis_sub) (by rw [List.length_map]; exact c), fun H' => Same H1 H' ∧ ∃ acc, H' D = some (.lst acc) ∧ acc.length ≤ i + 1 ∧ (∀ p, p ≠ D → H' p = none → H1 p = none) ∧ Paired (NewCl K (upd H1 D (.lst [])) H') acc ((xs.take (i + 1)).map f), fun H' nx => ⟨_, by omega, rfl, c, nx⟩, fun x Hy y => ?_⟩
      obtain ⟨sy, dy⟩ := it.yl i Hn x Hy (td xs[i]) (sv.trans vis_sub) (by rw [List.getElem?_map, hx]; rfl) y
      have hdx := dy M' hidn sv
      obtain ⟨ρ', hg, he⟩ := hb xs[i] (List.getElem_mem c)
      have en1 : EnvD K (vis M' Hy) (wipe σ vs) (wipeR ρ vs) := EnvD.wipe (en.same (((vis_same e1).trans sv).trans (vis_same sy))) vs
      refine hg M' (wipe σ vs) Hy x en1 hdx _ fun σ' en2 wq => ⟨wq.trans (hw σ), ?_⟩
      have hidy := hidn.same sy
      dsimp only [tYes]
      rw [if_pos rfl]
      refine he M' σ' Hy hidy en2 _ fun u H4 e4 hu => ?_
      have s4 := sy.trans e4
      have hD4 := s4 _ _ hD
      have tk : (xs.take (i + 1)).map f = (xs.take i).map f ++ [f xs[i]] := by rw [List.take_succ, hx, Option.toList_some, List.map_append]; rfl
      refine ⟨acc, hD4, sl1001 (by omega), same_upd (s.trans s4) nD, acc ++ [u], upd_same, by rw [List.length_append, List.length_singleton]; omega, fun p ne n => ?_, ?_⟩
      · rw [upd_ne ne] at n
        refine fr p ne ?_
        cases z : Hn p with
        | none => rfl
        | some o => rw [s4 _ _ z] at n; cases n
      · rw [tk]
        have base : Same (upd H1 D (.lst [])) (upd H1 D (.lst [])) := Same.refl _
        refine paired_snoc ?_ (paired_imp (fun v c' z => newcl_upd (K := K) (xs := acc) upd_same hD4 _ (z.same s4)) ha)
        refine newcl_upd (K := K) (xs := acc) upd_same hD4 _ ?_
        obtain ⟨t, a, b, ys, ys2, h1, h2, h3, h4, h5⟩ := hu
        have old : ∀ p, Hy p = none → upd H1 D (.lst []) p = none := fun p n => by
          have ne : p ≠ D := fun z => by rw [z, sy _ _ hD] at n; cases n
          rw [upd_ne ne]
          refine fr p ne ?_
          cases z : Hn p with
          | none => rfl
          | some o => rw [sy _ _ z] at n; cases n
        exact ⟨t, a, b, ys, ys2, h1, h2, old a h3, old b h4, h5⟩
    · have e : i = xs.length := by omega
      subst e
      rw [List.take_length] at ha
      exact .inl ⟨it.st _ Hn (sv.trans vis_sub) (by rw [List.length_map]; exact Nat.le_refl _), q D acc Hn (e1.trans s) nHD hD (paired_imp (fun v c' z => older z) ha)⟩
theorem nw_map2 {α : Type} {xs : List α} {td tf : α → PyData} {j k : Nat} (hi : PuI K wi ρ (xs.map fun x => .tuple [td x, tf x])) (hl : xs.length ≤ 90000) (f : α → Cl) (hb : ∀ x ∈ xs, NwE K te ((ρ.set j (some (td x))).set k (some (tf x))) (f x)) :
    NwL K (tLc wi (gTup K 2 (gCons (gName j) (gCons (gName k) gNil))) tYes te [j, k]) ρ (xs.map f) := by
  refine nw_lc (g := gTup K 2 (gCons (gName j) (gCons (gName k) gNil))) (vs := [j, k]) (te := te) hi hl f (fun x hx => ⟨_, pug_two j k, ?_⟩) (fun σ => wipe_two σ j k)
  show NwE K te (((((ρ.set k none).set j none).set j (some (td x)))).set k (some (tf x))) (f x)
  have e : ((((ρ.set k none).set j none).set j (some (td x)))).set k (some (tf x)) = (ρ.set j (some (td x))).set k (some (tf x)) := by
    apply List.ext_getElem?
    intro i
    simp only [List.getElem?_set, List.length_set]
    by_cases a : j = i <;> by_cases b : k = i <;> simp [a, b]
  rw [e]
  exact hb x hx
end
def spLed (K : PySem.W.Frag) : Sp := fun vs H Q _ => ∃ (M : Addr → Bool) (v u : V) (c : Cl) (w : Wd) (f : Fm), vs = [v, u] ∧ Hid M H ∧ Dp K (vis M H) v c.toD ∧ Dp K (vis M H) u (Ru.fm w f).toD ∧ Sh c.1 ∧ Sh c.2 ∧ c.1.length ≤ 900 ∧ c.2.length ≤ 900 ∧ f.dep ≤ 60 ∧ ((w = .left ∨ w = .right) → f.isSg = false) ∧
  ∀ p ys H', Same H H' → H p = none → H' p = some (.lst ys) → Paired (NewCl K (upd H p (.lst [])) H') ys (led c w f) → Q (.ref p) H'
theorem putIn_low {w : Wd} {f : Fm} (h : f.dep ≤ 60) {p : Cl} (hp : p ∈ putIn w f) : Sh p.1 ∧ Sh p.2 ∧ p.1.length ≤ 2 ∧ p.2.length ≤ 2 := by
  have one : ∀ {g : Fm}, g.dep ≤ 60 → Sh [g] := fun hg x hx => by rw [List.mem_singleton.mp hx]; exact hg
  have two : ∀ {g k : Fm}, g.dep ≤ 60 → k.dep ≤ 60 → Sh [g, k] := fun hg hk x hx => by
    rcases List.mem_cons.mp hx with rfl | hx
    · exact hg
    · rw [List.mem_singleton.mp hx]; exact hk
  have nil : Sh [] := fun x hx => nomatch hx
  cases w with
  | same => cases hp
  | lem =>
    rcases List.mem_cons.mp hp with rfl | hp
    · exact ⟨nil, one h, by simp, by simp⟩
    · rw [List.mem_singleton.mp hp]; exact ⟨one h, nil, by simp, by simp⟩
  | left =>
    cases f with
    | sg i => cases hp
    | no g =>
      have hg : g.dep ≤ 60 := by have h : g.dep + 1 ≤ 60 := h; omega
      rw [List.mem_singleton.mp hp]; exact ⟨nil, one hg, by simp, by simp⟩
    | bi b g k =>
      have hm : max g.dep k.dep + 1 ≤ 60 := h
      have hg : g.dep ≤ 60 := by omega
      have hk : k.dep ≤ 60 := by omega
      cases b with
      | an => rw [List.mem_singleton.mp hp]; exact ⟨two hg hk, nil, by simp, by simp⟩
      | o =>
        rcases List.mem_cons.mp hp with rfl | hp
        · exact ⟨one hg, nil, by simp, by simp⟩
        · rw [List.mem_singleton.mp hp]; exact ⟨one hk, nil, by simp, by simp⟩
      | th =>
        rcases List.mem_cons.mp hp with rfl | hp
        · exact ⟨nil, one hg, by simp, by simp⟩
        · rw [List.mem_singleton.mp hp]; exact ⟨one hk, nil, by simp, by simp⟩
  | right =>
    cases f with
    | sg i => cases hp
    | no g =>
      have hg : g.dep ≤ 60 := by have h : g.dep + 1 ≤ 60 := h; omega
      rw [List.mem_singleton.mp hp]; exact ⟨one hg, nil, by simp, by simp⟩
    | bi b g k =>
      have hm : max g.dep k.dep + 1 ≤ 60 := h
      have hg : g.dep ≤ 60 := by omega
      have hk : k.dep ≤ 60 := by omega
      cases b with
      | an =>
        rcases List.mem_cons.mp hp with rfl | hp
        · exact ⟨nil, one hg, by simp, by simp⟩
        · rw [List.mem_singleton.mp hp]; exact ⟨nil, one hk, by simp, by simp⟩
      | o => rw [List.mem_singleton.mp hp]; exact ⟨nil, two hg hk, by simp, by simp⟩
      | th => rw [List.mem_singleton.mp hp]; exact ⟨one hg, one hk, by simp, by simp⟩
theorem putIn_len (w : Wd) (f : Fm) : (putIn w f).length ≤ 2 := by
  cases w with
  | same => exact Nat.zero_le _
  | lem => exact Nat.le_refl _
  | left =>
    cases f with
    | sg i => exact Nat.zero_le _
    | no g => exact Nat.le_succ 1
    | bi b g k => cases b <;> first | exact Nat.le_refl _ | exact Nat.le_succ 1
  | right =>
    cases f with
    | sg i => exact Nat.zero_le _
    | no g => exact Nat.le_succ 1
    | bi b g k => cases b <;> first | exact Nat.le_refl _ | exact Nat.le_succ 1
theorem sh_without {L : List Fm} (h : Sh L) (f : Fm) : Sh (without L f) := fun g hg => h g (mem_without.mp hg).1
theorem without_len (L : List Fm) (f : Fm) : (without L f).length ≤ L.length := List.length_filter_le _ _
theorem sh_out {w v : Wd} {L : List Fm} {g : Fm} (h : Sh L) : Sh (outOf w v L g) := by
  show Sh (if w = v then without L g else L)
  split
  · exact sh_without h g
  · exact h
theorem out_len (w v : Wd) (L : List Fm) (g : Fm) : (outOf w v L g).length ≤ L.length := by
  show (if w = v then without L g else L).length ≤ L.length
  split
  · exact without_len L g
  · exact Nat.le_refl _
section
variable {P : Program} {w : World} {K : PySem.W.Frag} {mg : Str → Option Value} {base : Heap} {f : Addr} {fd : FuncData}
theorem scLedTo : FnScope ["claim", "rule", "word", "f", "left", "right", "g", "to_left", "to_right"] ["claim", "rule"] (defScope sLedTo) := ⟨rfl, rfl, rfl, by decide +kernel, rfl, by decide +kernel, by decide +kernel⟩
theorem pu_without {te : TE} {ρ : Rho} {L : List Fm} {g : Fm} {i j : Nat} (h : PuE K te ρ (lsD L)) (hs : Sh L) (hn : L.length ≤ 1000) (hg : g.dep ≤ 60) (ij : i ≠ j) (hi : ρ[i]? = some (some g.toD)) (hj : j < ρ.length) :
    PuE K (tLc (iList K te) (gName j) (tTest (tOp (rNeD K) (tVar j) (tVar i))) (tVar j) [j]) ρ (lsD (without L g)) := by
  refine pu_fil (xs := L) (td := Fm.toD) (pui_list h) (by omega) (fun x => !decide (x = g)) Fm.toD fun x hx => ⟨?_, fun _ => ?_⟩
  · refine (pu_tTest (pu_neD (d := x.toD) (e := g.toD) (pu_var ?_) (pu_var ?_) (sh_fm hs hx) (shaped_fm g (by omega)))).cast ?_
    · rw [List.getElem?_set_self hj]
    · rw [List.getElem?_set_ne ij.symm]; exact hi
    · rw [Fm.toD_eqv]
  · exact pu_var (by rw [List.getElem?_set_self hj])
theorem ok_ledTo (D : Df K mg "led_to" sLedTo ["claim", "rule"] f fd) (h_each_once : Has P w K mg base 1 "each_once" ["side"] (spOwn K 1 gEach)) (h_put_in : Has P w K mg base 2 "put_in" ["rule"] (spPu K 1 gPut)) : FnOk P w K mg base CX0 3 f fd ["claim", "rule"] (spLed K) := by
  refine D.fn.ok scLedTo (fun vs H Q E h => ?_) (fun cdv A outer s H vs Q E hr h => ?_)
  · obtain ⟨M, v, u, c, w, g, rfl, _⟩ := h
    rfl
  obtain ⟨M, v, u, c, wd, g, rfl, hid, hv, hu', s1, s2, l1, l2, hg, hsg, q⟩ := h
  have hu : (A.deeper (envOfC "led_to" (defScope sLedTo) s.heap.objs.size f cdv)).units + 65 < cLine := by have := hr.un; omega
  refine ⟨_, (pss_cons (ps_asg (pv 1) (pg_tup rfl (pgs_cons (pg_name (i := 2) scLedTo.nd rfl (by first | exact Or.inl rfl | exact Or.inr rfl)) (pgs_cons (pg_name (i := 3) scLedTo.nd rfl (by first | exact Or.inl rfl | exact Or.inr rfl)) pgs_nil))))
    (pss_cons (ps_asg (pv 0) (pg_tup rfl (pgs_cons (pg_name (i := 4) scLedTo.nd rfl (by first | exact Or.inl rfl | exact Or.inr rfl)) (pgs_cons (pg_name (i := 5) scLedTo.nd rfl (by first | exact Or.inl rfl | exact Or.inr rfl)) pgs_nil))))
    (pss_cons (ps_if (pt_cmpR op_eq (pv 2) pe_str (nomark _)) (pss_one (ps_set (i := 4) scLedTo.nd rfl (by first | exact Or.inl rfl | exact Or.inr rfl) (pe_lc (own := [("g", 6)]) (g := gName 6) rfl scLedTo.nd (pi_list (pv 4)) (blkOk_by (N := ["claim", "rule", "word", "f", "left", "right", "g", "to_left", "to_right"]) (sc := defScope sLedTo) (by decide +kernel)) (fun _ _ _ _ _ => (pg_name (i := 6) scLedTo.nd rfl (by first | exact Or.inl rfl | exact Or.inr rfl))) (fun _ _ _ _ _ => (pts_one (pt_cmpR (r := rNeD K) (op_neD (Nat.lt_of_succ_lt hu)) (pv 6) (pv 3) (nomark _)))) (fun _ _ _ _ _ => (pv 6))))) pss_nil)
    (pss_cons (ps_if (pt_cmpR op_eq (pv 2) pe_str (nomark _)) (pss_one (ps_set (i := 5) scLedTo.nd rfl (by first | exact Or.inl rfl | exact Or.inr rfl) (pe_lc (own := [("g", 6)]) (g := gName 6) rfl scLedTo.nd (pi_list (pv 5)) (blkOk_by (N := ["claim", "rule", "word", "f", "left", "right", "g", "to_left", "to_right"]) (sc := defScope sLedTo) (by decide +kernel)) (fun _ _ _ _ _ => (pg_name (i := 6) scLedTo.nd rfl (by first | exact Or.inl rfl | exact Or.inr rfl))) (fun _ _ _ _ _ => (pts_one (pt_cmpR (r := rNeD K) (op_neD (Nat.lt_of_succ_lt hu)) (pv 6) (pv 3) (nomark _)))) (fun _ _ _ _ _ => (pv 6))))) pss_nil)
    (pss_one (ps_ret (pe_lc (own := [("to_left", 7), ("to_right", 8)]) (g := gTup _ 2 (gCons (gName 7) (gCons (gName 8) gNil))) (tt := tYes) rfl scLedTo.nd (pi_list (pe_callH h_put_in (hr.mono (by omega)) (by rfl) (pa_cons (pv 1) pa_nil))) (blkOk_by (N := ["claim", "rule", "word", "f", "left", "right", "g", "to_left", "to_right"]) (sc := defScope sLedTo) (by decide +kernel)) (fun _ _ _ _ _ => (pg_tup rfl (pgs_cons (pg_name (i := 7) scLedTo.nd rfl (by first | exact Or.inl rfl | exact Or.inr rfl)) (pgs_cons (pg_name (i := 8) scLedTo.nd rfl (by first | exact Or.inl rfl | exact Or.inr rfl)) pgs_nil)))) (fun _ _ _ _ _ => pts_nil) (fun _ _ _ _ _ => (pe_tup (pa_cons (pe_callH h_each_once (hr.mono (by omega)) (by rfl) (pa_cons (pe_op (r := rCatL K) op_catL (pv 4) (pv 7)) pa_nil)) (pa_cons (pe_callH h_each_once (hr.mono (by omega)) (by rfl) (pa_cons (pe_op (r := rCatL K) op_catL (pv 5) (pv 8)) pa_nil)) pa_nil))))))))))), ?_⟩
  have en : EnvD K (vis M H) (L2.start ["claim", "rule", "word", "f", "left", "right", "g", "to_left", "to_right"] [v, u]) (startD ["claim", "rule", "word", "f", "left", "right", "g", "to_left", "to_right"] [c.toD, (Ru.fm wd g).toD]) := envD_start (.cons hv (.cons hu' .nil))
  refine pus_asg1 (d := .tuple [.str wd.txt, g.toD]) (pu_var rfl) (pug_two 2 3) M _ H hid en _ fun σ1 H1 e1 en1 => ?_
  refine pus_asg1 (d := .tuple [lsD c.1, lsD c.2]) (pu_var rfl) (pug_two 4 5) M _ H1 (hid.same e1) en1 _ fun σ2 H2 e2 en2 => ?_
  have e12 := e1.trans e2
  generalize hA : outOf wd .left c.1 g = A1
  generalize hB : outOf wd .right c.2 g = B1
  have p1 : PuS K (tIfS (tTest (tOp rEq (tVar 2) (tC (.str ("left" : Str))))) (tAsg (tLc (iList K (tVar 4)) (gName 6) (tTest (tOp (rNeD K) (tVar 6) (tVar 3))) (tVar 6) [6]) (gName 4)) tNext)
      [some c.toD, some (Ru.fm wd g).toD, some (.str wd.txt), some g.toD, some (lsD c.1), some (lsD c.2), none, none, none] (.nx [some c.toD, some (Ru.fm wd g).toD, some (.str wd.txt), some g.toD, some (lsD A1), some (lsD c.2), none, none, none]) := by
    refine pus_if (pu_tTest (pu_eqS (pu_var rfl) (pu_str _))) (fun z => ?_) (fun z => ?_)
    · have z : wd = .left := wtxt_inj (of_decide_eq_true z)
      subst z
      rw [show outOf .left .left c.1 g = without c.1 g from rfl] at hA
      subst hA
      exact pus_set1 (i := 4) (pu_without (pu_var rfl) s1 (by omega) hg (by decide) rfl (by show 6 < 9; decide))
    · have z : ¬ wd = .left := fun y => by rw [y] at z; exact absurd (of_decide_eq_false z) (fun n => n rfl)
      rw [show outOf wd .left c.1 g = c.1 from if_neg z] at hA
      subst hA
      exact pus_next
  have p2 : PuS K (tIfS (tTest (tOp rEq (tVar 2) (tC (.str ("right" : Str))))) (tAsg (tLc (iList K (tVar 5)) (gName 6) (tTest (tOp (rNeD K) (tVar 6) (tVar 3))) (tVar 6) [6]) (gName 5)) tNext)
      [some c.toD, some (Ru.fm wd g).toD, some (.str wd.txt), some g.toD, some (lsD A1), some (lsD c.2), none, none, none] (.nx [some c.toD, some (Ru.fm wd g).toD, some (.str wd.txt), some g.toD, some (lsD A1), some (lsD B1), none, none, none]) := by
    refine pus_if (pu_tTest (pu_eqS (pu_var rfl) (pu_str _))) (fun z => ?_) (fun z => ?_)
    · have z : wd = .right := wtxt_inj (of_decide_eq_true z)
      subst z
      rw [show outOf .right .right c.2 g = without c.2 g from rfl] at hB
      subst hB
      exact pus_set1 (i := 5) (pu_without (pu_var rfl) s2 (by omega) hg (by decide) rfl (by show 6 < 9; decide))
    · have z : ¬ wd = .right := fun y => by rw [y] at z; exact absurd (of_decide_eq_false z) (fun n => n rfl)
      rw [show outOf wd .right c.2 g = c.2 from if_neg z] at hB
      subst hB
      exact pus_next
  have sA : Sh A1 ∧ A1.length ≤ 900 := by
    rw [← hA]
    exact ⟨sh_out s1, Nat.le_trans (out_len _ _ _ _) l1⟩
  have sB : Sh B1 ∧ B1.length ≤ 900 := by
    rw [← hB]
    exact ⟨sh_out s2, Nat.le_trans (out_len _ _ _ _) l2⟩
  refine p1 M _ H2 (hid.same e12) en2 _ fun σ3 H3 e3 en3 => ?_
  refine p2 M _ H3 (hid.same (e12.trans e3)) en3 _ fun σ4 H4 e4 en4 => ?_
  have e14 := e12.trans (e3.trans e4)
  have led_eq : led c wd g = (putIn wd g).map fun p => (once (A1 ++ p.1), once (B1 ++ p.2)) := by rw [← hA, ← hB]; rfl
  rw [led_eq] at q
  dsimp only [tRet]
  refine nw_map2 (j := 7) (k := 8) (xs := putIn wd g) (td := fun p => lsD p.1) (tf := fun p => lsD p.2) (pui_list ?_) (Nat.le_trans (putIn_len wd g) (by decide)) (fun p => (once (A1 ++ p.1), once (B1 ++ p.2))) (fun p hp => ?_) M _ H4 (hid.same e14) en4 _ fun r ys H5 e5 nr hr5 hys => ?_
  · exact pu_call (pu_cons (pu_var rfl) pu_nil) rfl ⟨wd, g, rfl, hsg, rfl⟩
  · obtain ⟨q1, q2, q3, q4⟩ := putIn_low hg hp
    exact nw_tup (pu_cat (pu_var rfl) (pu_var rfl) (by rw [List.length_map, List.length_map]; omega) |>.cast (by rw [← List.map_append]; rfl)) (pu_cat (pu_var rfl) (pu_var rfl) (by rw [List.length_map, List.length_map]; omega) |>.cast (by rw [← List.map_append]; rfl)) (sh_app sA.1 q1) (sh_app sB.1 q2) (by rw [List.length_append]; omega) (by rw [List.length_append]; omega)
  · have old : ∀ p, H4 p = none → H p = none := fun p n => by
      cases z : H p with
      | none => rfl
      | some o => rw [e14 _ _ z] at n; cases n
    exact q r ys H5 (e14.trans e5) (old r nr) hr5 (paired_imp (fun v c z => z.older (same_upd2 e14)) hys)
end
end Lm
set_option Elab.async false
set_option linter.all false
set_option maxRecDepth 100000
set_option maxHeartbeats 400000
namespace Lm
open PySem PySem.Spec PyProof.Rows L2
section
variable {K : PySem.W.Frag} {ρ : Rho} {te ta tb : TE} {tt tu : TT} {d e : PyData}
theorem pu_or_l (h : PuT K tt ρ true) : PuT K (tOr tt tu) ρ true := (pu_tOr (c := true) h fun z => nomatch z).cast rfl
theorem pu_or_r {c : Bool} (h : PuT K tt ρ false) (k : PuT K tu ρ c) : PuT K (tOr tt tu) ρ c := (pu_tOr h fun _ => k).cast (Bool.false_or _)
theorem pu_isFormula (h : PuE K te ρ d) : PuE K (tCall (spIsFormula K) [] E0 (tCons te tNil)) ρ (.bool (isF 12 d)) := fun M σ H hid en Q q => h M σ H hid en _ fun v H1 e1 hv =>
  ⟨v, d, rfl, dp_same vis_sub _ _ hv, fun H' e2 => q _ H' (e1.trans e2) (.bl _)⟩
theorem pu_isClaim (h : PuE K te ρ d) (hs : short d) : PuE K (tCall (spIsClaim K) [] E0 (tCons te tNil)) ρ (.bool (isC d)) := fun M σ H hid en Q q => h M σ H hid en _ fun v H1 e1 hv =>
  ⟨v, d, rfl, dp_same vis_sub _ _ hv, hs, fun H' e2 => q _ H' (e1.trans e2) (.bl _)⟩
theorem pu_words {n : Nat} {f : Fm} (h : PuE K te ρ f.toD) (hn : f.dep < n) : PuE K (tCall (spWords K n) [] E0 (tCons te tNil)) ρ (.int (f.size : Int)) := fun M σ H hid en Q q => h M σ H hid en _ fun v H1 e1 hv =>
  ⟨v, f, rfl, dp_same vis_sub _ _ hv, hn, fun H' e2 => q _ H' (e1.trans e2) (.int _)⟩
end
/-! ### _fits -/
theorem fmD_inj {f g : Fm} (h : f.toD = g.toD) : f = g := by
  have e := Fm.toD_eqv f g
  have e2 := Fm.toD_eqv f f
  rw [← h, e2, decide_eq_true rfl] at e
  exact of_decide_eq_true e.symm
theorem fmsD_inj {L R : List Fm} (h : L.map Fm.toD = R.map Fm.toD) : L = R := by
  induction L generalizing R with
  | nil => cases R with
    | nil => rfl
    | cons _ _ => cases h
  | cons f L ih => cases R with
    | nil => cases h
    | cons g R =>
      rw [List.map_cons, List.map_cons] at h
      injection h with h1 h2
      rw [fmD_inj h1, ih h2]
theorem clD_inj {a b : Cl} (h : a.toD = b.toD) : a = b := by
  injection h with h
  injection h with h1 h2
  injection h1 with h1
  injection h2 with h2 _
  injection h2 with h2
  exact Prod.ext (fmsD_inj h1) (fmsD_inj h2)
theorem ruD_inj {a b : Ru} (h : a.toD = b.toD) : a = b := by
  cases a with
  | fm w f =>
    cases b with
    | fm v g =>
      injection h with h
      injection h with h1 h2
      injection h1 with h1
      injection h2 with h2 _
      rw [wtxt_inj h1, fmD_inj h2]
    | more c =>
      injection h with h
      injection h with h1 h2
      injection h1 with h1
      exact absurd h1 (wtxt_more w)
  | more c =>
    cases b with
    | fm v g =>
      injection h with h
      injection h with h1 h2
      injection h1 with h1
      exact absurd h1.symm (wtxt_more v)
    | more c' =>
      injection h with h
      injection h with h1 h2
      injection h2 with h2 _
      rw [clD_inj h2]
/-- b tells whether the rule d fits -/
def FitsD (c : Cl) (d : PyData) (b : Bool) : Prop := (∀ ru : Ru, d = ru.toD → ru.ok → b = fits c ru) ∧ ((∀ ru : Ru, d = ru.toD → ¬ ru.ok) → b = false)
theorem fitsD_ex (c : Cl) (d : PyData) : ∃ b, FitsD c d b := by
  by_cases h : ∃ ru : Ru, d = ru.toD ∧ ru.ok
  · obtain ⟨ru, rfl, ok⟩ := h
    exact ⟨fits c ru, fun ru' e _ => by rw [ruD_inj e], fun n => absurd ok (n ru rfl)⟩
  · exact ⟨false, fun ru e ok => absurd ⟨ru, e, ok⟩ h, fun _ => rfl⟩
def shortR (d : PyData) : Prop := ∀ w t, d = .tuple [.str w, t] → short t
def gFits (ds : List PyData) (r : PyData) : Prop := ∃ (c : Cl) (d : PyData) (b : Bool), ds = [c.toD, d] ∧ LowC c ∧ shortR d ∧ r = .bool b ∧ FitsD c d b
theorem ru_str {d0 d1 : PyData} (h : isSt d0 = false) (ru : Ru) : ¬ PyData.tuple [d0, d1] = ru.toD := by
  intro z
  cases ru with
  | fm w f => injection z with z; injection z with z1 z2; rw [z1] at h; cases h
  | more c => injection z with z; injection z with z1 z2; rw [z1] at h; cases h
theorem cl_short {c : Cl} (h : wordsC c ≤ 60) : short c.toD := by
  show (c.1.map Fm.toD).length + (c.2.map Fm.toD).length ≤ 1000
  rw [List.length_map, List.length_map]
  have := words_len c.1
  have := words_len c.2
  unfold wordsC at h
  omega
theorem cl_low {c : Cl} (h : wordsC c ≤ 60) (g : GdC c) : LowC c := by
  have := words_len c.1
  have := words_len c.2
  unfold wordsC at h
  exact ⟨g.1.sh, g.2.sh, by omega, by omega⟩
theorem isC_cl {c : Cl} (g : GdC c) : isC c.toD = decide (wordsC c ≤ 60) := isC_cD g.1 g.2
theorem isC_cback {d : PyData} (h : isC d = true) : ∃ c : Cl, d = c.toD ∧ GdC c ∧ wordsC c ≤ 60 := by
  obtain ⟨L, R, e, g1, g2, w⟩ := isC_back h
  exact ⟨(L, R), e, ⟨g1, g2⟩, w⟩
section
variable {P : Program} {w : World} {K : PySem.W.Frag} {mg : Str → Option Value} {base : Heap} {f : Addr} {fd : FuncData}
end
def spWanted (K : PySem.W.Frag) (C0 : Addr) : Sp := fun vs H Q E => ∃ (v u : V) (dc d : PyData), vs = [v, u] ∧ Dp K H v dc ∧ Dp K H u d ∧ short dc ∧ shortR d ∧
  (∀ c : Cl, dc = c.toD → GdC c → wordsC c ≤ 60 → (∀ ru : Ru, d = ru.toD → ru.ok → fits c ru = true → ∀ p ys H', Same H H' → H p = none → H' p = some (.lst ys) → Paired (NewCl K (upd H p (.lst [])) H') ys (wants c ru) → Q (.ref p) H') ∧
    ((∀ ru : Ru, d = ru.toD → ru.ok → fits c ru = false) → ∀ H', Same H H' → Q .non H')) ∧ (isC dc = false → ∀ H', Same H H' → E (.ref C0) none H')
theorem ru_ix0 (ru : Ru) : ∃ x t, ru.toD = .tuple [.str x, t] ∧ (x = ("more" : Str) ↔ ∃ m, ru = .more m) := by
  cases ru with
  | fm w f => exact ⟨_, _, rfl, fun z => absurd z (wtxt_more w), fun ⟨m, z⟩ => nomatch z⟩
  | more m => exact ⟨_, _, rfl, fun _ => ⟨m, rfl⟩, fun _ => rfl⟩
section
variable {P : Program} {w : World} {K : PySem.W.Frag} {mg : Str → Option Value} {base : Heap} {f : Addr} {fd : FuncData}
theorem dp_ru {H : Hp} {v : V} {x : Str} {t : PyData} (h : Dp K H v (.tuple [.str x, t])) : ∃ a u, v = .ref a ∧ SqT K H a [.str x, u] ∧ Dp K H u t := by
  obtain ⟨a, vs, rfl, hs, ha⟩ := dp_tupI h
  cases ha with
  | cons h1 ha =>
    cases ha with
    | cons h2 ha =>
      cases ha
      cases h1
      exact ⟨a, _, rfl, hs, h2⟩
end
end Lm
set_option Elab.async false
set_option linter.all false
set_option maxRecDepth 100000
set_option maxHeartbeats 400000
/-! texts of claims, chains: mathematics -/
namespace Lm
open PySem PySem.Spec PyProof.Rows L2
def leStr (a b : Str) : Bool := decide (a.cps.toList ≤ b.cps.toList)
theorem sort_ex (ys : List Str) : ∃ zs : List Str, zs.Perm ys ∧ sortedS zs = true := by
  refine ⟨ys.mergeSort leStr, List.mergeSort_perm _ _, sortedS_of_pairwise _ ?_⟩
  have h := List.pairwise_mergeSort (le := leStr) (fun a b c h k => ?_) (fun a b => ?_) ys
  · refine h.imp fun {a b} h => ?_
    unfold leStr at h
    rw [decide_eq_true_eq, ← List.not_lt] at h
    rw [ltCps_eq, decide_eq_false_iff_not]
    exact h
  · unfold leStr at h k ⊢
    rw [decide_eq_true_eq] at h k ⊢
    exact List.le_trans h k
  · unfold leStr
    rw [Bool.or_eq_true, decide_eq_true_eq, decide_eq_true_eq]
    exact List.le_total _ _
theorem side_ex {L : List Fm} (g : Gd L) : ∃ F, Side L F := by
  obtain ⟨zs, p, s⟩ := sort_ex ((once L).map spS)
  obtain ⟨F, _, h⟩ := side_of (L := L) (ks := (once L).map spS) (ys := zs) g (map_spS_nodup (gd_once g) (nodup_once L)) (fun y => by
    rw [List.mem_map, List.mem_map]
    exact ⟨fun ⟨f, a, b⟩ => ⟨f, mem_once.mp a, b⟩, fun ⟨f, a, b⟩ => ⟨f, mem_once.mpr a, b⟩⟩) p s
  exact ⟨F, h⟩
theorem clT_ex {c : Cl} (g : GdC c) : ∃ y, ClT c.1 c.2 y := by
  obtain ⟨F, h⟩ := side_ex g.1
  obtain ⟨G, k⟩ := side_ex g.2
  exact ⟨_, F, G, h, k, rfl⟩
open Classical in
/-- the text of a claim -/
noncomputable def clS (c : Cl) : Str := if h : ∃ y, ClT c.1 c.2 y then choose h else Str.empty
theorem clS_ok {c : Cl} (g : GdC c) : ClT c.1 c.2 (clS c) := by
  unfold clS
  rw [dif_pos (clT_ex g)]
  exact Classical.choose_spec (clT_ex g)
theorem clS_eq {c e : Cl} (g : GdC c) (k : GdC e) : clS c = clS e ↔ Alike c e := clT_eq g.1 g.2 k.1 k.2 (clS_ok g) (clS_ok k)
theorem clS_is {c : Cl} {y : Str} (g : GdC c) (h : ClT c.1 c.2 y) : y = clS c := (clT_eq g.1 g.2 g.1 g.2 h (clS_ok g)).2 ⟨fun _ => Iff.rfl, fun _ => Iff.rfl⟩
theorem alike_refl (c : Cl) : Alike c c := ⟨fun _ => Iff.rfl, fun _ => Iff.rfl⟩
theorem Alike.symm {c e : Cl} (h : Alike c e) : Alike e c := ⟨fun f => (h.1 f).symm, fun f => (h.2 f).symm⟩
theorem Alike.trans {c d e : Cl} (h : Alike c d) (k : Alike d e) : Alike c e := ⟨fun f => (h.1 f).trans (k.1 f), fun f => (h.2 f).trans (k.2 f)⟩
/-! ### chains -/
/-- n numbers a line ahead, its claim alike to w -/
def TellsP (cs : List Cl) (n : PyData) (w : Cl) : Prop := ∃ (i : Nat) (c : Cl), n = .int (i : Int) ∧ cs[i]? = some c ∧ Alike c w
/-- the line follows from lines of these claims -/
def FolL (line : PyData) (cs : List Cl) (c : Cl) (ru : Ru) (ns : List PyData) : Prop :=
  line = .tuple [c.toD, ru.toD, .list ns] ∧ GdC c ∧ wordsC c ≤ 60 ∧ ru.ok ∧ fits c ru = true ∧ ns.length = (wants c ru).length ∧ ∀ p ∈ ns.zip (wants c ru), TellsP cs p.1 p.2
def FolP (line : PyData) (cs : List Cl) : Prop := ∃ c ru ns, FolL line cs c ru ns
/-- the lines follow, the claims being these -/
inductive Chn : List PyData → List Cl → Prop where
  | nil : Chn [] []
  | snoc {ls : List PyData} {cs : List Cl} {line : PyData} {c : Cl} {ru : Ru} {ns : List PyData} : Chn ls cs → FolL line cs c ru ns → Chn (ls ++ [line]) (cs ++ [c])
/-- claims as they stand in lines -/
def OkC (c : Cl) : Prop := GdC c ∧ wordsC c ≤ 60
theorem Chn.len {ls : List PyData} {cs : List Cl} (h : Chn ls cs) : ls.length = cs.length := by
  induction h with
  | nil => rfl
  | snoc _ _ ih => rw [List.length_append, List.length_append, ih]; rfl
theorem Chn.ok {ls : List PyData} {cs : List Cl} (h : Chn ls cs) : ∀ c ∈ cs, OkC c := by
  induction h with
  | nil => exact fun c hc => nomatch hc
  | snoc _ h ih =>
    intro c hc
    rcases List.mem_append.mp hc with hc | hc
    · exact ih c hc
    · rw [List.mem_singleton.mp hc]
      exact ⟨h.2.1, h.2.2.1⟩
theorem words_len' (L : List Fm) : L.length ≤ wordsS L := words_len L
/-- sizes of what rules want -/
structure Mid (c : Cl) : Prop where
  gd : GdC c
  l1 : c.1.length < 64
  l2 : c.2.length < 64
  w1 : wordsS c.1 ≤ 10000
  w2 : wordsS c.2 ≤ 10000
theorem OkC.mid {c : Cl} (h : OkC c) : Mid c := by
  have h2 : wordsS c.1 + wordsS c.2 ≤ 60 := h.2
  have a := words_len c.1
  have b := words_len c.2
  exact ⟨h.1, by omega, by omega, by omega, by omega⟩
theorem size_dep : ∀ {f : Fm} {n : Nat}, f.dep ≤ n → f.size + 1 ≤ 2 ^ n
  | .sg i, n, h => by
    have h : 1 ≤ n := h
    show 1 + 1 ≤ 2 ^ n
    calc 2 = 2 ^ 1 := rfl
      _ ≤ 2 ^ n := Nat.pow_le_pow_right (by decide) h
  | .no f, n, h => by
    have h : f.dep + 1 ≤ n := h
    obtain ⟨m, rfl⟩ : ∃ m, n = m + 1 := ⟨n - 1, by omega⟩
    have ih := size_dep (f := f) (n := m) (by omega)
    show f.size + 1 + 1 ≤ 2 ^ (m + 1)
    rw [Nat.pow_succ]
    have : 1 ≤ f.size := by cases f <;> simp [Fm.size]
    omega
  | .bi b f g, n, h => by
    have h : max f.dep g.dep + 1 ≤ n := h
    obtain ⟨m, rfl⟩ : ∃ m, n = m + 1 := ⟨n - 1, by omega⟩
    have i1 := size_dep (f := f) (n := m) (by omega)
    have i2 := size_dep (f := g) (n := m) (by omega)
    show f.size + g.size + 1 + 1 ≤ 2 ^ (m + 1)
    rw [Nat.pow_succ]
    omega
theorem gd_size {f : Fm} (h : f.dep ≤ 12) : f.size ≤ 4096 := by
  have := size_dep h
  have e : (2 : Nat) ^ 12 = 4096 := by decide
  omega
theorem without_words (L : List Fm) (f : Fm) : wordsS (without L f) ≤ wordsS L := by
  induction L with
  | nil => exact Nat.le_refl _
  | cons g L ih =>
    unfold without at ih ⊢
    rw [List.filter_cons]
    split
    · rw [wordsS_cons, wordsS_cons]; omega
    · rw [wordsS_cons]; omega
/-- what a rule wants of a claim -/
theorem wants_mid {c : Cl} {ru : Ru} (h : OkC c) (ok : ru.ok) (ft : fits c ru = true) : (∀ w ∈ wants c ru, Mid w) ∧ (wants c ru).length ≤ 2 := by
  have hw : wordsS c.1 + wordsS c.2 ≤ 60 := h.2
  have n1 := words_len c.1
  have n2 := words_len c.2
  have inner : ∀ {f : Fm} {w : Wd} {p : Cl}, f.good → f.dep ≤ 12 → p ∈ putIn w f → Gd p.1 ∧ Gd p.2 ∧ p.1.length ≤ 2 ∧ p.2.length ≤ 2 ∧ wordsS p.1 ≤ f.size ∧ wordsS p.2 ≤ f.size := fun {f w p} g d hp => by
    have one : ∀ {k : Fm}, k.good → k.dep ≤ 12 → Gd [k] := fun a b => gd_one a b
    cases w with
    | same => cases hp
    | lem =>
      simp only [putIn, List.mem_cons, List.not_mem_nil, or_false] at hp
      rcases hp with rfl | rfl
      · exact ⟨gd_nil, one g d, by simp, by simp, by simp [wordsS], by simp [wordsS]⟩
      · exact ⟨one g d, gd_nil, by simp, by simp, by simp [wordsS], by simp [wordsS]⟩
    | left =>
      have hp : p ∈ putL f := hp
      cases f with
      | sg i => cases hp
      | no k =>
        have d : k.dep + 1 ≤ 12 := d
        have kd : k.dep ≤ 12 := by omega
        simp only [putL, List.mem_cons, List.not_mem_nil, or_false] at hp
        subst hp
        exact ⟨gd_nil, one g kd, by simp, by simp, by simp [wordsS], by simp [wordsS, Fm.size]⟩
      | bi b k l =>
        have d : max k.dep l.dep + 1 ≤ 12 := d
        have kd : k.dep ≤ 12 := by omega
        have ld : l.dep ≤ 12 := by omega
        have g : k.good ∧ l.good := g
        cases b with
        | an =>
          simp only [putL, List.mem_cons, List.not_mem_nil, or_false] at hp
          subst hp
          exact ⟨gd_cons g.1 kd (one g.2 ld), gd_nil, by simp, by simp, by simp [wordsS, Fm.size], by simp [wordsS]⟩
        | o =>
          simp only [putL, List.mem_cons, List.not_mem_nil, or_false] at hp
          rcases hp with rfl | rfl
          · exact ⟨one g.1 kd, gd_nil, by simp, by simp, by simp [wordsS, Fm.size]; omega, by simp [wordsS]⟩
          · exact ⟨one g.2 ld, gd_nil, by simp, by simp, by simp [wordsS, Fm.size]; omega, by simp [wordsS]⟩
        | th =>
          simp only [putL, List.mem_cons, List.not_mem_nil, or_false] at hp
          rcases hp with rfl | rfl
          · exact ⟨gd_nil, one g.1 kd, by simp, by simp, by simp [wordsS], by simp [wordsS, Fm.size]; omega⟩
          · exact ⟨one g.2 ld, gd_nil, by simp, by simp, by simp [wordsS, Fm.size]; omega, by simp [wordsS]⟩
    | right =>
      have hp : p ∈ putR f := hp
      cases f with
      | sg i => cases hp
      | no k =>
        have d : k.dep + 1 ≤ 12 := d
        have kd : k.dep ≤ 12 := by omega
        simp only [putR, List.mem_cons, List.not_mem_nil, or_false] at hp
        subst hp
        exact ⟨one g kd, gd_nil, by simp, by simp, by simp [wordsS, Fm.size], by simp [wordsS]⟩
      | bi b k l =>
        have d : max k.dep l.dep + 1 ≤ 12 := d
        have kd : k.dep ≤ 12 := by omega
        have ld : l.dep ≤ 12 := by omega
        have g : k.good ∧ l.good := g
        cases b with
        | an =>
          simp only [putR, List.mem_cons, List.not_mem_nil, or_false] at hp
          rcases hp with rfl | rfl
          · exact ⟨gd_nil, one g.1 kd, by simp, by simp, by simp [wordsS], by simp [wordsS, Fm.size]; omega⟩
          · exact ⟨gd_nil, one g.2 ld, by simp, by simp, by simp [wordsS], by simp [wordsS, Fm.size]; omega⟩
        | o =>
          simp only [putR, List.mem_cons, List.not_mem_nil, or_false] at hp
          subst hp
          exact ⟨gd_nil, gd_cons g.1 kd (one g.2 ld), by simp, by simp, by simp [wordsS], by simp [wordsS, Fm.size]⟩
        | th =>
          simp only [putR, List.mem_cons, List.not_mem_nil, or_false] at hp
          subst hp
          exact ⟨one g.1 kd, one g.2 ld, by simp, by simp, by simp [wordsS, Fm.size]; omega, by simp [wordsS, Fm.size]; omega⟩
  cases ru with
  | more m =>
    obtain ⟨gm, wm⟩ := ok
    have wm : wordsS m.1 + wordsS m.2 ≤ 60 := wm
    have a := once_words m.1
    have b := once_words m.2
    have a2 := words_len (once m.1)
    have b2 := words_len (once m.2)
    refine ⟨fun w hw => ?_, by show 1 ≤ 2; decide⟩
    have hw : w ∈ [(once m.1, once m.2)] := hw
    rw [List.mem_singleton.mp hw]
    exact ⟨⟨gd_once gm.1, gd_once gm.2⟩, by show (once m.1).length < 64; omega, by show (once m.2).length < 64; omega, by show wordsS (once m.1) ≤ _; omega, by show wordsS (once m.2) ≤ _; omega⟩
  | fm wd f =>
    obtain ⟨gf, df⟩ := ok
    have fs := gd_size df
    refine ⟨fun w hw => ?_, ?_⟩
    · have hw : w ∈ led c wd f := hw
      unfold led at hw
      obtain ⟨p, hp, rfl⟩ := List.mem_map.mp hw
      obtain ⟨g1, g2, l1, l2, s1, s2⟩ := inner gf df hp
      have outw : ∀ (v : Wd) (L : List Fm), wordsS (outOf wd v L f) ≤ wordsS L ∧ (outOf wd v L f).length ≤ L.length := fun v L => by
        show wordsS (if wd = v then without L f else L) ≤ _ ∧ (if wd = v then without L f else L).length ≤ _
        by_cases e : wd = v
        · rw [if_pos e]; exact ⟨without_words L f, List.length_filter_le _ _⟩
        · rw [if_neg e]; exact ⟨Nat.le_refl _, Nat.le_refl _⟩
      have outg : ∀ {v : Wd} {L : List Fm}, Gd L → Gd (outOf wd v L f) := fun {v L} g => by
        show Gd (if wd = v then without L f else L)
        by_cases e : wd = v
        · rw [if_pos e]; exact fun k hk => g k (mem_without.mp hk).1
        · rw [if_neg e]; exact g
      have o1 := outw .left c.1
      have o2 := outw .right c.2
      have e1 := once_words (outOf wd .left c.1 f ++ p.1)
      have e2 := once_words (outOf wd .right c.2 f ++ p.2)
      have k1 := once_len (outOf wd .left c.1 f ++ p.1)
      have k2 := once_len (outOf wd .right c.2 f ++ p.2)
      rw [wordsS_app] at e1 e2
      rw [List.length_append] at k1 k2
      refine ⟨⟨gd_once (gd_app (outg h.1.1) g1), gd_once (gd_app (outg h.1.2) g2)⟩, ?_, ?_, ?_, ?_⟩
      · show (once _).length < 64; omega
      · show (once _).length < 64; omega
      · show wordsS (once _) ≤ _; omega
      · show wordsS (once _) ≤ _; omega
    · show (List.map _ _).length ≤ 2
      rw [List.length_map]
      cases wd with
      | same => show (0 : Nat) ≤ 2; decide
      | lem => show (2 : Nat) ≤ 2; decide
      | left =>
        show (putL f).length ≤ 2
        cases f with
        | sg i => show (0 : Nat) ≤ 2; decide
        | no k => show (1 : Nat) ≤ 2; decide
        | bi b k l => cases b <;> simp [putL]
      | right =>
        show (putR f).length ≤ 2
        cases f with
        | sg i => show (0 : Nat) ≤ 2; decide
        | no k => show (1 : Nat) ≤ 2; decide
        | bi b k l => cases b <;> simp [putR]
end Lm
set_option Elab.async false
set_option linter.all false
set_option maxRecDepth 100000
set_option maxHeartbeats 400000
/-! what follows holds -/
namespace Lm
open PySem PySem.Spec PyProof.Rows L2
def HoldsC (S : Int → Bool) (c : Cl) : Prop := (∀ f ∈ c.1, f.tr S = true) → ∃ g ∈ c.2, g.tr S = true
theorem holds_once {S : Int → Bool} {A B : List Fm} (h : HoldsC S (once A, once B)) : HoldsC S (A, B) := fun a => by
  obtain ⟨g, hg, t⟩ := h fun f hf => a f (mem_once.mp hf)
  exact ⟨g, mem_once.mp hg, t⟩
theorem holds_alike {S : Int → Bool} {a b : Cl} (h : HoldsC S a) (al : Alike a b) : HoldsC S b := fun t => by
  obtain ⟨g, hg, u⟩ := h fun f hf => t f ((al.1 f).1 hf)
  exact ⟨g, (al.2 g).1 hg, u⟩
theorem holds_sub {S : Int → Bool} {a b : Cl} (h : HoldsC S a) (s : Sub a b) : HoldsC S b := fun t => by
  obtain ⟨g, hg, u⟩ := h fun f hf => t f (s.1 f hf)
  exact ⟨g, s.2 g hg, u⟩
theorem all_app {S : Int → Bool} {A B : List Fm} (h : ∀ f ∈ A, f.tr S = true) (k : ∀ f ∈ B, f.tr S = true) : ∀ f ∈ A ++ B, f.tr S = true := fun f hf => (List.mem_append.mp hf).elim (h f) (k f)
theorem all_without {S : Int → Bool} {A : List Fm} {f : Fm} (h : ∀ f ∈ A, f.tr S = true) : ∀ g ∈ without A f, g.tr S = true := fun g hg => h g (mem_without.mp hg).1
theorem all_one {S : Int → Bool} {f : Fm} (h : f.tr S = true) : ∀ g ∈ [f], g.tr S = true := fun g hg => by rw [List.mem_singleton.mp hg]; exact h
theorem sound {S : Int → Bool} {c : Cl} {ru : Ru} (ft : fits c ru = true) (h : ∀ w ∈ wants c ru, HoldsC S w) : HoldsC S c := by
  intro a
  cases ru with
  | more m =>
    have s : Sub m c := of_decide_eq_true ft
    have hm : HoldsC S (m.1, m.2) := holds_once (h _ List.mem_cons_self)
    exact holds_sub hm s a
  | fm w f =>
    have hp : ∀ p ∈ putIn w f, HoldsC S (outOf w .left c.1 f ++ p.1, outOf w .right c.2 f ++ p.2) := fun p hp => holds_once (h _ (List.mem_map.mpr ⟨p, hp, rfl⟩))
    cases w with
    | same =>
      have ft : (decide (f ∈ c.1) && decide (f ∈ c.2)) = true := ft
      rw [Bool.and_eq_true, decide_eq_true_eq, decide_eq_true_eq] at ft
      exact ⟨f, ft.2, a f ft.1⟩
    | lem =>
      have h1 : HoldsC S (c.1 ++ [], c.2 ++ [f]) := hp ([], [f]) (by simp [putIn])
      have h2 : HoldsC S (c.1 ++ [f], c.2 ++ []) := hp ([f], []) (by simp [putIn])
      obtain ⟨g, hg, t⟩ := h1 (all_app a fun _ z => nomatch z)
      rcases List.mem_append.mp hg with hg | hg
      · exact ⟨g, hg, t⟩
      · rw [List.mem_singleton.mp hg] at t
        obtain ⟨k, hk, u⟩ := h2 (all_app a (all_one t))
        rw [List.append_nil] at hk
        exact ⟨k, hk, u⟩
    | left =>
      have ft : (decide (f ∈ c.1) && !f.isSg) = true := ft
      rw [Bool.and_eq_true, decide_eq_true_eq] at ft
      have tf := a f ft.1
      have hp : ∀ p ∈ putL f, HoldsC S (without c.1 f ++ p.1, c.2 ++ p.2) := hp
      have aw : ∀ g ∈ without c.1 f, g.tr S = true := all_without a
      cases f with
      | sg i => exact absurd ft.2 (fun z : (!true) = true => nomatch z)
      | no g =>
        have tf : (!g.tr S) = true := tf
        obtain ⟨k, hk, u⟩ := hp ([], [g]) (by simp [putL]) (all_app aw fun _ z => nomatch z)
        rcases List.mem_append.mp hk with hk | hk
        · exact ⟨k, hk, u⟩
        · rw [List.mem_singleton.mp hk] at u
          rw [u] at tf
          cases tf
      | bi b g k =>
        cases b with
        | an =>
          have tf : (g.tr S && k.tr S) = true := tf
          rw [Bool.and_eq_true] at tf
          obtain ⟨x, hx, u⟩ := hp ([g, k], []) (by simp [putL]) (all_app aw fun y hy => by
            simp only [List.mem_cons, List.not_mem_nil, or_false] at hy
            rcases hy with rfl | rfl
            · exact tf.1
            · exact tf.2)
          rw [List.append_nil] at hx
          exact ⟨x, hx, u⟩
        | o =>
          have tf : (g.tr S || k.tr S) = true := tf
          rw [Bool.or_eq_true] at tf
          rcases tf with tf | tf
          · obtain ⟨x, hx, u⟩ := hp ([g], []) (by simp [putL]) (all_app aw (all_one tf))
            rw [List.append_nil] at hx
            exact ⟨x, hx, u⟩
          · obtain ⟨x, hx, u⟩ := hp ([k], []) (by simp [putL]) (all_app aw (all_one tf))
            rw [List.append_nil] at hx
            exact ⟨x, hx, u⟩
        | th =>
          have tf : (!g.tr S || k.tr S) = true := tf
          obtain ⟨x, hx, u⟩ := hp ([], [g]) (by simp [putL]) (all_app aw fun _ z => nomatch z)
          rcases List.mem_append.mp hx with hx | hx
          · exact ⟨x, hx, u⟩
          · rw [List.mem_singleton.mp hx] at u
            rw [u] at tf
            obtain ⟨y, hy, v⟩ := hp ([k], []) (by simp [putL]) (all_app aw (all_one (by simpa using tf)))
            rw [List.append_nil] at hy
            exact ⟨y, hy, v⟩
    | right =>
      have ft : (decide (f ∈ c.2) && !f.isSg) = true := ft
      rw [Bool.and_eq_true, decide_eq_true_eq] at ft
      have hp : ∀ p ∈ putR f, HoldsC S (c.1 ++ p.1, without c.2 f ++ p.2) := hp
      by_cases tf : f.tr S = true
      · exact ⟨f, ft.1, tf⟩
      have back : ∀ {x : Fm}, x ∈ without c.2 f → x.tr S = true → ∃ g ∈ c.2, g.tr S = true := fun h t => ⟨_, (mem_without.mp h).1, t⟩
      cases f with
      | sg i => exact absurd ft.2 (fun z : (!true) = true => nomatch z)
      | no g =>
        have tg : g.tr S = true := by
          have tf : ¬ (!g.tr S) = true := tf
          simpa using tf
        obtain ⟨x, hx, u⟩ := hp ([g], []) (by simp [putR]) (all_app a (all_one tg))
        rw [List.append_nil] at hx
        exact back hx u
      | bi b g k =>
        cases b with
        | an =>
          have tf : ¬ (g.tr S && k.tr S) = true := tf
          obtain ⟨x, hx, u⟩ := hp ([], [g]) (by simp [putR]) (all_app a fun _ z => nomatch z)
          rcases List.mem_append.mp hx with hx | hx
          · exact back hx u
          rw [List.mem_singleton.mp hx] at u
          obtain ⟨y, hy, v⟩ := hp ([], [k]) (by simp [putR]) (all_app a fun _ z => nomatch z)
          rcases List.mem_append.mp hy with hy | hy
          · exact back hy v
          rw [List.mem_singleton.mp hy] at v
          exact absurd (by rw [u, v]; rfl) tf
        | o =>
          have tf : ¬ (g.tr S || k.tr S) = true := tf
          obtain ⟨x, hx, u⟩ := hp ([], [g, k]) (by simp [putR]) (all_app a fun _ z => nomatch z)
          rcases List.mem_append.mp hx with hx | hx
          · exact back hx u
          simp only [List.mem_cons, List.not_mem_nil, or_false] at hx
          rcases hx with rfl | rfl
          · exact absurd (by rw [u]; rfl) tf
          · exact absurd (by rw [u, Bool.or_true]) tf
        | th =>
          have tf : ¬ (!g.tr S || k.tr S) = true := tf
          have tg : g.tr S = true := by
            cases z : g.tr S with
            | true => rfl
            | false => rw [z] at tf; exact absurd rfl tf
          obtain ⟨x, hx, u⟩ := hp ([g], [k]) (by simp [putR]) (all_app a (all_one tg))
          rcases List.mem_append.mp hx with hx | hx
          · exact back hx u
          rw [List.mem_singleton.mp hx] at u
          exact absurd (by rw [u, Bool.or_true]) tf
theorem fol_holds {S : Int → Bool} {line : PyData} {cs : List Cl} {c : Cl} {ru : Ru} {ns : List PyData} (h : FolL line cs c ru ns) (a : ∀ c ∈ cs, HoldsC S c) : HoldsC S c := by
  obtain ⟨_, _, _, _, ft, ln, t⟩ := h
  refine sound ft fun w hw => ?_
  obtain ⟨i, hi⟩ := List.getElem?_of_mem hw
  have il : i < ns.length := by have := (List.getElem?_eq_some_iff.mp hi).1; omega
  obtain ⟨j, e, _, hj, al⟩ := t (ns[i], w) (List.mem_of_getElem? (List.getElem?_zip_eq_some.mpr ⟨List.getElem?_eq_getElem il, hi⟩))
  exact holds_alike (a _ (List.mem_of_getElem? hj)) al
/-- every claim of a chain holds in every world -/
theorem chn_holds {ls : List PyData} {cs : List Cl} (h : Chn ls cs) (S : Int → Bool) : ∀ c ∈ cs, HoldsC S c := by
  induction h with
  | nil => exact fun c hc => nomatch hc
  | snoc h f ih =>
    intro c hc
    rcases List.mem_append.mp hc with hc | hc
    · exact ih c hc
    · rw [List.mem_singleton.mp hc]
      exact fol_holds f ih
end Lm
set_option Elab.async false
set_option linter.all false
set_option maxRecDepth 100000
set_option maxHeartbeats 2000000
/-! a lambda with parameters, made as a value; called; min by it -/
namespace Lm
open PySem PySem.Spec PyProof.Rows L2 LamX NdefX
/-- a lambda's words -/
structure LF where
  qual : Str
  params : Arguments
  body : Expr
  scope : Scope
  cl : List (Str × Addr)
  c : Addr
def LF.nf (F : LF) : NF := ⟨"<lambda>", F.qual, F.params, [], F.scope, F.cl, F.c⟩
/-- at f stands this lambda -/
def LamO (f : Addr) (F : LF) : HO := .ext fun h => ∃ pm ctv : Value, h.get? f = some (PySem.W.kla_obj "<lambda>" F.qual F.params F.body F.scope F.cl pm F.c ctv)
theorem lamO_tbl {f : Addr} {F : LF} (ps : Array Value) : LamO f F ≠ .tbl ps := fun z => by
  unfold LamO at z
  cases z
section
variable {X : Cx} {pins : List (Addr × Obj)} {σ : L2.St} {H : Hp} {s : Shared}
theorem lam_known {F : LF} {o : Obj} {t' : Nat} {pm ctv : Value} (I : Inv X pins σ H s) (ho : o = PySem.W.kla_obj "<lambda>" F.qual F.params F.body F.scope F.cl pm F.c ctv) :
    Inv X pins σ (upd H s.heap.objs.size (LamO s.heap.objs.size F)) { s with heap := s.heap.push o, toks := t' } := by
  subst ho
  have e := Heap.get?_push_size s.heap (o := PySem.W.kla_obj "<lambda>" F.qual F.params F.body F.scope F.cl pm F.c ctv) rfl
  exact I.laid (fun b u z => Heap.get?_push_of_some _ z) (Nat.le_refl _) ⟨⟨pm, ctv, e⟩, ⟨_, e⟩, fun h1 h2 ⟨p, t, z⟩ st => ⟨p, t, st _ z⟩⟩
/-- its making -/
theorem lam_made {T : List (Addr × Str)} {c P : Addr} {params : Arguments} {body : Expr} {scope : Scope} {pos : Pos} {E : Value → Shared → Prop} {Q : Value → Shared → Prop} (I : Inv X pins σ H s) (TB : TabB X.base X.mg c P) (codeC : X.env.code = .ref c)
    (inT : (P, X.env.qual ++ "<lambda>") ∈ T) (only : ∀ p ∈ T, p.1 = P → p.2 = X.env.qual ++ "<lambda>") (tabs : Tabs T H) (noDef : defaultsOf params X.env = ([], [])) (caught : ∀ y ∈ scope.names, y.2 = .free → ∃ c, X.env.cells.lookup y.1 = some c)
    (h : ∀ (f c' : Addr) (H1 : Hp) (s' : Shared), Inv X pins σ H1 s' → ExtN H H1 → (∀ b, H1 b = none → H b = none) → Tabs T H1 → H f = none → H1 f = some (LamO f ⟨X.env.qual ++ "<lambda>", params, body, scope, cloFrom X.env.cells scope.names [], c'⟩) → H1 c' = some (CodeO c' (X.env.qual ++ "<lambda>")) → Q (.ref f) s') :
    wpAny (model X.prog X.w) X.A (eval (.Lambda params body scope pos) X.env) Q E s := by
  obtain ⟨ps, atP, ht, ha⟩ := tabs _ inT
  refine PySem.W.kla_eval noDef ?_
  have bP := TB.bm.keeps I.bk
  have objP : s.heap.get? P = some { cls := .none, data := .fields ps } := I.hok P _ atP
  cases fnd : codeAmong pos ps.toList with
  | some cv =>
    obtain ⟨c', e, hco⟩ := ha pos cv fnd
    subst e
    refine PySem.W.kla_makeFunctionHit (closure_ok caught) I.ok.glob (I.mod.glob.keeps I.bk) codeC (TB.code.keeps I.bk) objP ht fnd bP fun ctv h' tk hx hsz => ?_
    have I1 : Inv X pins σ H { s with heap := h', toks := tk } := I.kept hx
    have newF : H h'.objs.size = none := I1.hok.fresh (Nat.le_refl _)
    have I2 := lam_known (F := ⟨X.env.qual ++ "<lambda>", params, body, scope, cloFrom X.env.cells scope.names [], c'⟩) (t' := tk) (pm := (X.mg "__name__").getD .none) (ctv := ctv) I1 rfl
    have k : ∀ b o, H b = some o → upd H h'.objs.size (LamO h'.objs.size ⟨X.env.qual ++ "<lambda>", params, body, scope, cloFrom X.env.cells scope.names [], c'⟩) b = some o := fun b o e => (upd_ne (ne_of_none e newF)).trans e
    exact h _ c' _ _ I2 (fun b o e _ => k b o e) (fun b e => NdefX.upd_none e) (tabs.ext k) newF upd_same (k _ _ hco)
  | none =>
    refine PySem.W.kla_makeFunction (closure_ok caught) I.ok.glob (I.mod.glob.keeps I.bk) codeC (TB.code.keeps I.bk) objP ht fnd TB.gP bP fun c' ctv h' tk hx above below recC tabC => ?_
    obtain ⟨c2, oc, vs, t, e2, hoc, hd, hv⟩ := recC
    cases e2
    have newC : H c' = none := I.hok.fresh above
    have I1 := inv_table (t' := tk) (more := #[rawInt pos.line, rawInt pos.col, .ref c']) I atP hx tabC above ⟨oc, vs, t, hoc, hd, hv⟩
    have listE : (ps ++ #[rawInt pos.line, rawInt pos.col, .ref c']).toList = ps.toList ++ [rawInt pos.line, rawInt pos.col, .ref c'] := by simp
    have hE : ExtN H (upd (upd H P (.tbl (ps ++ #[rawInt pos.line, rawInt pos.col, .ref c']))) c' (CodeO c' (X.env.qual ++ "<lambda>"))) := fun b o e n =>
      (upd_ne (ne_of_none e newC)).trans ((upd_ne fun z => n ps (by rw [z, atP] at e; exact (Option.some.inj e).symm)).trans e)
    have T1 : Tabs T (upd (upd H P (.tbl (ps ++ #[rawInt pos.line, rawInt pos.col, .ref c']))) c' (CodeO c' (X.env.qual ++ "<lambda>"))) := fun p hp => by
      by_cases hb : p.1 = P
      · rw [only p hp hb, hb]
        refine ⟨_, (upd_ne (ne_of_none atP newC)).trans upd_same, listE ▸ PySem.TriplesOk_snoc _ _ _ _ ht, fun p' cv among => ?_⟩
        rcases among_app _ ht (listE ▸ among) with z | z
        · exact (ha p' cv z).imp fun c0 r => ⟨r.1, hE _ _ r.2 codeO_ne⟩
        · exact ⟨c', z, upd_same⟩
      · obtain ⟨qs, a1, a2, a3⟩ := tabs p hp
        exact ⟨qs, (upd_ne (ne_of_none a1 newC)).trans ((upd_ne hb).trans a1), a2, fun p' cv among => (a3 p' cv among).imp fun c0 r => ⟨r.1, hE _ _ r.2 codeO_ne⟩⟩
    have newF : upd (upd H P (.tbl (ps ++ #[rawInt pos.line, rawInt pos.col, .ref c']))) c' (CodeO c' (X.env.qual ++ "<lambda>")) h'.objs.size = none := I1.hok.fresh (Nat.le_refl _)
    have I2 := lam_known (F := ⟨X.env.qual ++ "<lambda>", params, body, scope, cloFrom X.env.cells scope.names [], c'⟩) (t' := tk) (pm := (X.mg "__name__").getD .none) (ctv := ctv) I1 rfl
    refine h _ c' _ _ I2 (fun b o e n => ?_) (fun b e => NdefX.upd_none (NdefX.upd_none (NdefX.upd_none e))) (T1.ext fun b o e => (upd_ne (ne_of_none e newF)).trans e) (I.hok.fresh (Nat.le_trans above (Nat.le_of_lt below))) upd_same ((upd_ne (Nat.ne_of_lt below)).trans upd_same)
    exact (upd_ne (ne_of_none (hE b o e n) newF)).trans (hE b o e n)
/-- a call of it, within the frame of its maker -/
theorem lam_run {F : LF} {N ps fr : List Str} {js : List Nat} {f : Addr} {k : Nat} {us : List Value} {vs : List V} {Q : VK} {A : Around} {tb : TE} (I : Inv X pins σ H s) (hf : H f = some (LamO f F)) (hc : H F.c = some (CodeO F.c F.qual)) (S : NScope N ps fr F.scope) (cp : Caps X F.cl fr js)
    (hb : ∀ (pm ctv : Value) (us : List Value), us.length = ps.length → bindArgs (PySem.W.kla_fn "<lambda>" F.qual F.params F.body F.scope F.cl pm (.ref F.c) ctv) ⟨us, []⟩ = pure (ps.zip us)) (hr : Room (k + 1) A) (e0 : Env0 X.prog X.w X.K X.mg X.base A X.stack s H) (hl : vs.length = ps.length) (r : Vals vs us)
    (hbody : ∀ (s : Shared) (H : Hp), Room k (A.deeper (envF F.nf f s.heap.objs.size)) → PE (ncx CX0 X.prog X.w X.K X.mg X.base N F.nf f A X.stack s H E0) F.body tb)
    (h : tb (startF N vs (js.map (slotAt σ))) H Q) : codeAny (model X.prog X.w) A (.call (.ref f) ⟨us, []⟩) (CR CX0 X.stack X.prog X.w H s Q E0) s := by
  obtain ⟨⟨pm, ctv, ho⟩, _, _⟩ := I.hok f _ hf
  have noLim : s.heap.NoLimit := e0.mod.nolimit.keeps fun b o e => (e0.bs b o e).1
  refine PySem.W.kla_callFunE hr.depth ho rfl S.co S.gen rfl (codeO_at I.hok hc) ?_
  rw [hb pm ctv us (by rw [← r.length]; exact hl)]
  refine wpAny_pure (wpAny_newFunctionEnv S.nocell (fun ⟨n, _⟩ hy => S.par n (List.of_mem_zip hy).1) (fun h₁ hns hsb => ⟨noLim.fresh _ hsb, ?_⟩) S.kind)
  show codeAny _ _ (.expr F.body (envF F.nf f s.heap.objs.size)) _ _
  have kept : ∀ b o, s.heap.get? b = some o → h₁.get? b = some o := fun b o e => hsb.extBut b o (Nat.ne_of_lt (Heap.lt_size e)) (Heap.get?_push_of_some _ e)
  have J := inv_startN (CX := CX0) (N := N) (F := F.nf) (f := f) (E := E0) (h₁ := h₁) (tk := s.toks + (ps.zip us).length) S hr.hd e0 hl r (cells_of I cp) hns kept
  refine PySem.W.kla_codeExpr (wpAny_mono ((hbody s H (hr.deeper _)).run [] _ _ H Q J h) (fun v s' hq => ?_) fun e s' hq => hq)
  obtain ⟨x, H2, J2, rx, qx⟩ := hq
  exact ⟨x, H2, J2.os, J2.bare, J2.base, J2.hok, rx, qx⟩
end
end Lm
set_option Elab.async false
set_option linter.all false
set_option maxRecDepth 100000
set_option maxHeartbeats 2000000
/-! min by a key: its loop, with what is known of the best so far -/
namespace Lm
open PySem PySem.Spec PyProof.Rows L2 LamX NdefX
open PySem.Sem (wp)
structure KeyGo (prog : Program) (w : World) (A : Around) (q S : Addr) (wr : List Addr) (G : Array GenState → Array GenState → Prop) (n : Nat) (P : Nat → Value → Prop) (St : Nat → Shared → Prop) (J : Shared → Prop) (B : Nat → Value → Shared → Prop) (B2 : Nat → Value → Nat → Value → Shared → Prop) (bt : Nat → Nat → Bool) : Prop where
  jm : ∀ s s', J s → Moved (S :: wr) G s s' → J s'
  bm : ∀ i k s s', B i k s → Moved (S :: wr) G s s' → B i k s'
  first : ∀ v (s : Shared) (o : Obj) (Q : Value → Shared → Prop) (E : Value → Shared → Prop), 0 < n → P 0 v → J s → St 1 s → s.heap.get? S = some o → (∀ k s', B 0 k s' → St 1 s' → s'.heap.get? S = some o → Q k s') → wpAny (model prog w) A (call (.ref q) [v]) Q E s
  turn : ∀ i j kb v (s : Shared) (o : Obj) (Q : Value → Shared → Prop) (E : Value → Shared → Prop), i < n → P i v → B j kb s → St (i + 1) s → s.heap.get? S = some o → (∀ k s', B2 i k j kb s' → St (i + 1) s' → s'.heap.get? S = some o → Q k s') → wpAny (model prog w) A (call (.ref q) [v]) Q E s
  cmp : ∀ i k j kb (s : Shared) (Q : Value → Shared → Prop) (E : Value → Shared → Prop), B2 i k j kb s → Q (.bool (bt i j)) s → wpAny (model prog w) A (richCompare .Lt k kb) Q E s
  new : ∀ i k j kb s, B2 i k j kb s → B i k s
  old : ∀ i k j kb s, B2 i k j kb s → B j kb s
section
variable {prog : Program} {w : World} {A : Around} {R : Result → Shared → Prop} {I q S : Addr} {fp wr : List Addr} {G : Array GenState → Array GenState → Prop} {n : Nat} {P : Nat → Value → Prop} {St : Nat → Shared → Prop} {J : Shared → Prop} {B : Nat → Value → Shared → Prop} {B2 : Nat → Value → Nat → Value → Shared → Prop} {bt : Nat → Nat → Bool}
theorem nameL : (toString "min" ++ toString ".loop" : String) = "min.loop" := by decide
theorem loop_go (W : WalksS prog w A.in1 I fp wr G n P St) (nS : S ∉ fp) (K : KeyGo prog w A.in1 q S wr G n P St J B B2 bt) (kw : List (Str × Value)) : ∀ (k j : Nat) (s : Shared) (vb kb : Value) (c : Nat), n - (j + 1) = k → j + 1 ≤ n → B (argBest bt j) kb s → St (j + 1) s → P (argBest bt j) vb →
    s.heap.get? S = some { cls := .type "list", dict := none, data := .seq #[vb, kb] c, slots := #[] } → (∀ v kb s', P (argBest bt (n - 1)) v → B (argBest bt (n - 1)) kb s' → R (.ok (.ret v)) s') → codeAny (model prog w) A (.builtin "min.loop" ⟨[.ref I, (.ref q), .ref S], kw⟩) R s := by
  have nW : S ∉ wr := fun h => nS (W.sub _ h)
  have sub : ∀ b ∈ wr, b ∈ S :: wr := fun b hb => List.mem_cons_of_mem _ hb
  have neS : ∀ {b : Addr}, b ∉ S :: wr → S ≠ b := fun hb h => hb (h ▸ List.mem_cons_self)
  have mv : ∀ (s : Shared) (g : Obj → Obj), Moved (S :: wr) G s { s with heap := s.heap.update S g, toks := s.toks } := fun s g => (Moved.refl W.grefl).then_heap (tk := s.toks) (Nat.le_refl _) fun b o hb e => (Heap.get?_update_other _ _ (neS hb)).trans e
  intro k
  induction k with
  | zero =>
    intro j s vb kb c hk hj bB st0 hP hS hR
    have atEnd : j + 1 = n := by omega
    have hn : n - 1 = j := by omega
    refine codeAny_builtin F.entry_min_loop ?_; rw [Around.under_plainId F.plain_min_loop _]
    show wpAny _ A.in1 (seqItems? (.ref S) >>= _) _ _ s; refine wpAny_bind (wpAny_seqItems hS rfl ?_)
    show wpAny _ A.in1 (tryCatch (pyNext (.ref I)) _ >>= _) _ _ s; refine wpAny_bind (wpAny_tryCatch (W.done s _ _ (atEnd ▸ st0) fun s' hm => ?_))
    have sS := hm.heap S _ nW hS
    show wpAny _ A.in1 (updateSeq S (fun _ => #[]) >>= _) _ _ _; refine wpAny_bind ?_; refine wpAny_updateSeq sS rfl (wpAny_bind (wpAny_letGo (wpAny_pure ?_)))
    exact hR vb kb _ (hn ▸ hP) (hn ▸ K.bm _ _ _ _ (K.bm _ _ _ _ bB (hm.mono sub)) (mv s' _))
  | succ k ih =>
    intro j s vb kb c hk hj bB st0 hP hS hR
    have low : j + 1 < n := by omega
    refine codeAny_builtin F.entry_min_loop ?_; rw [Around.under_plainId F.plain_min_loop _]
    show wpAny _ A.in1 (seqItems? (.ref S) >>= _) _ _ s; refine wpAny_bind (wpAny_seqItems hS rfl ?_)
    show wpAny _ A.in1 (tryCatch (pyNext (.ref I)) _ >>= _) _ _ s; refine wpAny_bind (wpAny_tryCatch (W.item (j + 1) s _ _ low st0 fun v s' hPv stN hm => ?_))
    have sS := hm.heap S _ nW hS
    have hB' := K.bm _ _ _ _ bB (hm.mono sub)
    show wpAny _ A.in1 (tryCatch (holding [v] (call (.ref q) [v])) _ >>= _) _ _ _; refine wpAny_bind (wpAny_tryCatch (wpAny_holding (K.turn (j + 1) _ kb v s' _ _ _ low hPv hB' stN sS fun kx s2 h2 st2 hS2 => ?_)))
    show wpAny _ A.in1 (tryCatch (holding [v, kx] (richCompare .Lt kx kb >>= _)) _ >>= _) _ _ _; refine wpAny_bind (wpAny_tryCatch (wpAny_holding (wpAny_bind (K.cmp _ kx _ kb s2 _ _ h2 ?_))))
    refine wpAny_bind (wpAny_holding (wpAny_truthy_bool ?_)); refine wpAny_bind (wpAny_letGo (wpAny_pure ?_))
    cases less : bt (j + 1) (argBest bt j) with
    | true =>
      simp only [if_true]; refine wpAny_bind ?_; refine wpAny_updateSeq hS2 rfl (wpAny_bind (wpAny_letGo ?_)); rw [nameL]
      have e : argBest bt (j + 1) = j + 1 := by simp only [argBest, less, if_true]
      refine wpAny_pure ⟨plainId_quiet F.plain_min_loop _, ih (j + 1) _ v kx _ (by omega) low (e.symm ▸ K.bm _ _ _ _ (K.new _ _ _ _ _ h2) (mv s2 _)) (W.frame _ s2 _ s2.toks st2 (Nat.le_refl _) fun b hbf o z => ?_) (e.symm ▸ hPv) (Heap.get?_update_self _ hS2 rfl) hR⟩
      exact (Heap.get?_update_other _ _ (fun h : S = b => nS (h ▸ hbf))).trans z
    | false =>
      simp only [Bool.false_eq_true, if_false]; refine wpAny_bind (wpAny_letGo ?_); rw [nameL]
      have e : argBest bt (j + 1) = argBest bt j := by simp only [argBest, less, Bool.false_eq_true, if_false]
      exact wpAny_pure ⟨plainId_quiet F.plain_min_loop _, ih (j + 1) _ vb kb c (by omega) low (e.symm ▸ K.old _ _ _ _ _ h2) st2 (e.symm ▸ hP) hS2 hR⟩
theorem loop_first (W : WalksS prog w A.in1 I fp wr G n P St) (nS : S ∉ fp) (K : KeyGo prog w A.in1 q S wr G n P St J B B2 bt) (kw : List (Str × Value)) (hn : 0 < n) {s : Shared} {c : Nat} (hJ : J s) (st0 : St 0 s) (hS : s.heap.get? S = some { cls := .type "list", dict := none, data := .seq #[] c, slots := #[] })
    (hR : ∀ v kb s', P (argBest bt (n - 1)) v → B (argBest bt (n - 1)) kb s' → R (.ok (.ret v)) s') : codeAny (model prog w) A (.builtin "min.loop" ⟨[.ref I, (.ref q), .ref S], kw⟩) R s := by
  have nW : S ∉ wr := fun h => nS (W.sub _ h)
  have sub : ∀ b ∈ wr, b ∈ S :: wr := fun b hb => List.mem_cons_of_mem _ hb
  have neS : ∀ {b : Addr}, b ∉ S :: wr → S ≠ b := fun hb h => hb (h ▸ List.mem_cons_self)
  refine codeAny_builtin F.entry_min_loop ?_; rw [Around.under_plainId F.plain_min_loop _]
  show wpAny _ A.in1 (seqItems? (.ref S) >>= _) _ _ s; refine wpAny_bind (wpAny_seqItems hS rfl ?_)
  show wpAny _ A.in1 (tryCatch (pyNext (.ref I)) _ >>= _) _ _ s; refine wpAny_bind (wpAny_tryCatch (W.item 0 s _ _ hn st0 fun v s' hP stN hm => ?_))
  have sS := hm.heap S _ nW hS
  show wpAny _ A.in1 (tryCatch (holding [v] (call (.ref q) [v])) _ >>= _) _ _ _; refine wpAny_bind (wpAny_tryCatch (wpAny_holding (K.first v s' _ _ _ hn hP (K.jm _ _ hJ (hm.mono sub)) stN sS fun kx s2 bB st2 hS2 => ?_)))
  show wpAny _ A.in1 (updateSeq S (fun _ => #[v, kx]) >>= _) _ _ _; refine wpAny_bind ?_; refine wpAny_updateSeq hS2 rfl ?_; rw [nameL]
  have m2 : Moved (S :: wr) G s2 { s2 with heap := s2.heap.update S (Obj.mapSeq fun _ => #[v, kx]), toks := s2.toks } := (Moved.refl W.grefl).then_heap (tk := s2.toks) (Nat.le_refl _) fun b o hb e => (Heap.get?_update_other _ _ (neS hb)).trans e
  refine wpAny_pure ⟨plainId_quiet F.plain_min_loop _, loop_go W nS K kw _ 0 _ v kx _ rfl hn (K.bm _ _ _ _ bB m2) (W.frame _ s2 _ s2.toks st2 (Nat.le_refl _) fun b hbf o z => ?_) hP (Heap.get?_update_self _ hS2 rfl) hR⟩
  exact (Heap.get?_update_other _ _ (fun h : S = b => nS (h ▸ hbf))).trans z
theorem call_min_by {E : Value → Shared → Prop} {s : Shared} {x : Value} {Q : Value → Shared → Prop}
    (h : wpAny (model prog w) A.in1 (pyIter x) (fun it s₂ => ∃ I fp wr G n P St J B B2 bt, it = .ref I ∧ WalksS prog w A.in1 I fp wr G n P St ∧ St 0 s₂ ∧ (∀ b ∈ fp, b < s₂.heap.objs.size) ∧ 0 < n ∧ KeyGo prog w A.in1 q s₂.heap.objs.size wr G n P St J B B2 bt ∧ J s₂ ∧ ∀ v kb s', P (argBest bt (n - 1)) v → B (argBest bt (n - 1)) kb s' → Q v s') E s) :
    wpAny (model prog w) A (call (.builtin "min") [x] [(Str.ofString "key", .ref q)]) Q E s :=
  by
  refine PyProof.Rows.kmk_tree F.kind_min F.plain_min F.entry_min (PyProof.Rows.kmk_min_key _ _) ?_; show wpAny _ A.in1 (Builtin.Builtins.bindParams "min" ["key", "default"] 0 ⟨[], [(Str.ofString "key", .ref q)]⟩ >>= _) _ _ s; refine wpAny_bind (wpAny_of_eq (show Builtin.Builtins.bindParams "min" ["key", "default"] 0 ⟨[], [(Str.ofString "key", .ref q)]⟩ = pure [some (.ref q), none] from rfl) ?_)
  refine wpAny_bind (wpAny_pure ?_); refine wpAny_bind (wpAny_mono h (fun it s₂ hx => ?_) fun _ _ e => e)
  obtain ⟨I, fp, wr, G, n, P, St, J, B, B2, bt, rfl, W, st0, inFp, hn, K, hJ, hQ⟩ := hx
  refine wpAny_bind (wpAny_newObj_type ?_); have nS : s₂.heap.objs.size ∉ fp := fun hm => Nat.lt_irrefl _ (inFp _ hm)
  rw [nameL]
  have m0 : Moved (s₂.heap.objs.size :: wr) G s₂ { s₂ with heap := s₂.heap.push { cls := .type "list", data := .seq #[] 0 }, toks := s₂.toks } := (Moved.refl W.grefl).then_heap (tk := s₂.toks) (Nat.le_refl _) fun b o _ e => Heap.get?_push_of_some _ e
  have stN := W.frame 0 s₂ (s₂.heap.push { cls := .type "list", data := .seq #[] 0 }) s₂.toks st0 (Nat.le_refl _) fun b _ o e => Heap.get?_push_of_some _ e
  exact wpAny_pure ⟨plainId_quiet F.plain_min_loop _, loop_first W nS K _ hn (K.jm _ _ hJ m0) stN (Heap.get?_push_size _ rfl) hQ⟩
end
end Lm
set_option Elab.async false
set_option linter.all false
set_option maxRecDepth 100000
set_option maxHeartbeats 1000000
/-! min(xs, key=a lambda), its keys pairs of numbers -/
namespace Lm
open PySem PySem.Spec PyProof.Rows L2 LamX NdefX
def keyAt (ks : List (Int × Int)) (i : Nat) : List Int := [(ks.getD i (0, 0)).1, (ks.getD i (0, 0)).2]
def bestOf (ks : List (Int × Int)) : Nat := argBest (fun i j => HT.lexLt (keyAt ks i) (keyAt ks j)) (ks.length - 1)
def pairH (k : List Int) : HO := .tup (k.map V.int)
section
variable {X : Cx} {pins : List (Addr × Obj)} {σ : L2.St} {H : Hp} {s : Shared}
theorem fpOk_frs {b : Addr} (I : Inv X pins σ H s) (h : FpOk X pins H b) : b ∉ frs X.stack := fun z => by
  rcases List.mem_cons.mp (I.stkSub _ z) with e | e
  · exact h.2.1 e
  · exact h.2.2.1 e
theorem min_lam {F : LF} {N fr : List Str} {p : Str} {js : List Nat} {a f : Addr} {k : Nat} {xs : List V} {ks : List (Int × Int)} {Q : VK} {tb : TE} (I : Inv X pins σ H s) (ha : H a = some (.lst xs)) (ne : xs ≠ []) (hk : ks.length = xs.length) (hf : H f = some (LamO f F)) (hc : H F.c = some (CodeO F.c F.qual))
    (S : NScope N [p] fr F.scope) (cp : Caps X F.cl fr js) (hb : ∀ (pm ctv : Value) (us : List Value), us.length = [p].length → bindArgs (PySem.W.kla_fn "<lambda>" F.qual F.params F.body F.scope F.cl pm (.ref F.c) ctv) ⟨us, []⟩ = pure ([p].zip us)) (hr : Room (k + 2) X.A)
    (hbody : ∀ (A : Around) (s : Shared) (H : Hp), Room k (A.deeper (envF F.nf f s.heap.objs.size)) → PE (ncx CX0 X.prog X.w X.K X.mg X.base N F.nf f A X.stack s H E0) F.body tb)
    (hkey : ∀ (i : Nat) (x : V), xs[i]? = some x → ∀ H', (∀ b u, b ≠ a → H b = some u → H' b = some u) → ∀ Q' : VK, (∀ t H'', Same H' H'' → H'' t = some (pairH (keyAt ks i)) → Q' (.ref t) H'') → tb (startF N [x] (js.map (slotAt σ))) H' Q')
    (q : ∀ x H', Same H H' → xs[bestOf ks]? = some x → Q x H') : wpAny (model X.prog X.w) X.A (call (.builtin "min") [.ref a] [(Str.ofString "key", .ref f)]) (EP X pins σ Q) X.xe s := by
  obtain ⟨od, I1⟩ := I.lock ha trivial
  have nofz := I.nofrz ha trivial
  generalize hHl : upd H a (.frz od (.lst xs)) = Hl at I1
  have la : Hl a = some (.frz od (.lst xs)) := by rw [← hHl]; exact upd_same
  have fa : f ≠ a := ne_of hf ha (fun z => nomatch z)
  have ca : F.c ≠ a := ne_of hc ha (fun z => nomatch z)
  have lf : Hl f = some (LamO f F) := by rw [← hHl]; exact (upd_ne fa).trans hf
  have lc : Hl F.c = some (CodeO F.c F.qual) := by rw [← hHl]; exact (upd_ne ca).trans hc
  have lb : ∀ b u, b ≠ a → H b = some u → Hl b = some u := fun b u n e => by rw [← hHl]; exact (upd_ne n).trans e
  obtain ⟨hod, hz, its, n, rv, hob⟩ := I1.hok a _ la
  have isL : s.heap.IsList a its.toArray := ⟨_, hob, rfl, _, rfl⟩
  have hl : its.length = xs.length := rv.length.symm
  have xl : 0 < xs.length := List.length_pos_iff.mpr ne
  refine call_min_by (PySem.W.iter_listW hr.hd isL fun s₂ es W st fpl _ old => ?_)
  have I2 : Inv X pins σ Hl s₂ := by rw [es]; exact I1.kept (fun b o e => Heap.get?_push_of_some _ e)
  have sz : s₂.heap.objs.size = s.heap.objs.size + 1 := by rw [es]; exact Heap.size_push _ _
  have f0 : FpOk X pins Hl s.heap.objs.size := I1.fpOk (Nat.le_refl _) (I1.hok.fresh (Nat.le_refl _))
  have f1 : FpOk X pins Hl s₂.heap.objs.size := I1.fpOk (by omega) (I1.hok.fresh (by omega))
  have n01 : s.heap.objs.size ≠ s₂.heap.objs.size := by omega
  have aT : s₂.heap.IsList a its.toArray := st.2
  generalize s₂.heap.objs.size = SS at f1 n01 fpl ⊢
  generalize s.heap.objs.size = II at f0 n01 W st fpl ⊢
  -- what stands all along
  have JH : ∃ J : Hp → Shared → Prop, J = fun H' s' => Inv X pins σ H' s' ∧ Same Hl H' ∧ FpOk X pins H' II ∧ FpOk X pins H' SS := ⟨_, rfl⟩
  obtain ⟨J, hJ⟩ := JH
  have moved : ∀ H' s' s'', J H' s' → Moved [SS, II] (fun a b => b = a) s' s'' → J H' s'' := fun H' s' s'' h m => by
    rw [hJ] at h ⊢
    obtain ⟨j1, j2, j3, j4⟩ := h
    refine ⟨?_, j2, j3, j4⟩
    have e : s'' = { s' with heap := s''.heap, toks := s''.toks } := by
      obtain ⟨hh, g, d, t, o⟩ := s''
      have m2 : g = s'.gens := m.gens
      have m3 : d = s'.drawn := m.drawn
      have m4 : o = s'.os := m.os
      rw [m2, m3, m4]
    rw [e]
    exact j1.turnedL (ch := [SS, II]) m.heap fun b hb => by
      rcases List.mem_cons.mp hb with rfl | hb
      · exact j4
      · rw [List.mem_singleton.mp hb]; exact j3
  -- a call of the key
  have calls : ∀ (i : Nat) (v : Value) (H' : Hp) (s' : Shared) (o : Obj) (QQ : Value → Shared → Prop) (EE : Value → Shared → Prop), J H' s' → its.toArray[i]? = some v → s'.heap.IsListIter II a (i + 1) → s'.heap.get? SS = some o →
      (∀ t H'' s'', J H'' s'' → Same H' H'' → H'' t = some (pairH (keyAt ks i)) → s''.heap.IsListIter II a (i + 1) ∧ s''.heap.IsList a its.toArray → s''.heap.get? SS = some o → QQ (.ref t) s'') → wpAny (model X.prog X.w) X.A.in1 (call (.ref f) [v]) QQ EE s' := fun i v H' s' o QQ EE h hv hit hS k => by
    rw [hJ] at h
    obtain ⟨j1, j2, j3, j4⟩ := h
    have il : i < xs.length := by
      have e : its[i]? = some v := by simpa using hv
      have := (List.getElem?_eq_some_iff.mp e).1
      omega
    obtain ⟨u, hu, ru⟩ := rv.get (List.getElem?_eq_getElem il)
    have eu : u = v := by
      have e : its[i]? = some v := by simpa using hv
      rw [hu] at e
      exact Option.some.inj e
    subst eu
    have run := lam_run (X := X) (σ := σ) (A := X.A.in1) (us := [u]) (vs := [xs[i]]) (Q := fun t H'' => Same H' H'' ∧ ∃ tt, t = .ref tt ∧ H'' tt = some (pairH (keyAt ks i))) j1 (j2 _ _ lf) (j2 _ _ lc) S cp hb (Room.in1 hr) j1.env0.in1 rfl (.cons ru .nil) (hbody X.A.in1)
      (hkey i _ (List.getElem?_eq_getElem il) H' (fun b w n e => j2 _ _ (lb b w n e)) _ fun t H'' e ht => ⟨e, t, rfl, ht⟩)
    refine wpAny_call (codeAny_mono run fun r s'' hq => ?_)
    cases r with
    | error e => exact (show False from hq).elim
    | ok fl =>
      cases fl with
      | next => exact False.elim hq
      | brk => exact False.elim hq
      | cont => exact False.elim hq
      | ret w =>
        obtain ⟨v', H'', os, bare, un, hok, rw', sm, tt, rfl, ht⟩ := hq
        have J' : Inv X pins σ H'' s'' := j1.call' (ch := []) os un hok bare (fun b z => absurd z (by simp))
        have ew : w = Value.ref tt := rw'
        subst ew
        have kp : ∀ b ob, FpOk X pins H' b → s'.heap.get? b = some ob → s''.heap.get? b = some ob := fun b ob fp e => un.keep b ob e fp.1 (fpOk_frs j1 fp) (by simp)
        obtain ⟨oi, ei, r1, r2⟩ := hit
        have fr : ∀ b ob, FpOk X pins H' b → s'.heap.get? b = some ob → FpOk X pins H'' b := fun b ob fp e => ⟨un.free b ob e fp.1 (by simp), fp.2⟩
        have oa : s''.heap.get? a = some od := (J'.hok a _ (sm _ _ (j2 _ _ la))).1
        have oa' : s.heap.get? a = some od := hod
        refine k tt H'' s'' (by rw [hJ]; exact ⟨J', j2.trans sm, fr _ _ j3 ei, fr _ _ j4 hS⟩) sm ht ⟨⟨oi, kp _ _ j3 ei, r1, r2⟩, ?_⟩ (kp _ _ j4 hS)
        rw [hob] at oa'
        cases oa'
        exact ⟨_, oa, rfl, _, rfl⟩
  refine ⟨II, [II, a], [II], (fun x y => y = x), its.toArray.size, (fun i v => its.toArray[i]? = some v), _, fun s' => ∃ H', J H' s', fun i kb s' => ∃ H', J H' s' ∧ ∃ t, kb = .ref t ∧ H' t = some (pairH (keyAt ks i)),
    fun i kx j kb s' => ∃ H', J H' s' ∧ (∃ t, kx = .ref t ∧ H' t = some (pairH (keyAt ks i))) ∧ ∃ t, kb = .ref t ∧ H' t = some (pairH (keyAt ks j)), fun i j => HT.lexLt (keyAt ks i) (keyAt ks j), rfl, W, st, fpl, by simpa [hl] using xl, ?_, ⟨Hl, by rw [hJ]; exact ⟨I2, Same.refl _, f0, f1⟩⟩, ?_⟩
  · refine ⟨fun s' s'' ⟨H', h⟩ m => ⟨H', moved H' s' s'' h m⟩, fun i kx s' s'' ⟨H', h, r⟩ m => ⟨H', moved H' s' s'' h m, r⟩, fun v s' o QQ EE _ hv ⟨H', h⟩ hst hS k => ?_, fun i j kb v s' o QQ EE _ hv ⟨H', h, t, et, ht⟩ hst hS k => ?_, fun i kx j kb s' QQ EE ⟨H', h, ⟨t, et, ht⟩, t2, et2, ht2⟩ hq => ?_, fun i kx j kb s' ⟨H', h, r, r2⟩ => ⟨H', h, r⟩, fun i kx j kb s' ⟨H', h, r, r2⟩ => ⟨H', h, r2⟩⟩
    · exact calls 0 v H' s' o QQ EE h hv hst.1 hS fun t H'' s'' h2 _ ht hst2 hS2 => k _ _ ⟨H'', h2, t, rfl, ht⟩ hst2 hS2
    · exact calls i v H' s' o QQ EE h hv hst.1 hS fun t' H'' s'' h2 sm ht' hst2 hS2 => k _ _ ⟨H'', h2, ⟨t', rfl, ht'⟩, t, et, sm _ _ ht⟩ hst2 hS2
    · rw [hJ] at h
      subst et et2
      obtain ⟨_, i1, v1, p1⟩ := h.1.hok _ _ ht
      obtain ⟨_, i2, v2, p2⟩ := h.1.hok _ _ ht2
      exact HT.lt_tupInts (ns := keyAt ks i) (ms := keyAt ks j) p1 p2 (by rw [List.toList_toArray]; exact v1.ints) (by rw [List.toList_toArray]; exact v2.ints) (by have := (Room.in1 hr).un; omega) hq
  · intro v kb s' hP ⟨H', h, _⟩
    rw [hJ] at h
    obtain ⟨j1, j2, _, _⟩ := h
    have e1 : its.toArray.size - 1 = ks.length - 1 := by simp [hl, hk]
    rw [e1] at hP
    have hP : its.toArray[bestOf ks]? = some v := hP
    have il : bestOf ks < xs.length := by
      have e : its[bestOf ks]? = some v := by simpa using hP
      have := (List.getElem?_eq_some_iff.mp e).1
      omega
    obtain ⟨u, hu, ru⟩ := rv.get (List.getElem?_eq_getElem il)
    have eu : u = v := by
      have e : its[bestOf ks]? = some v := by simpa using hP
      rw [hu] at e
      exact Option.some.inj e
    subst eu
    refine ⟨xs[bestOf ks], upd H' a (.lst xs), j1.unlock (j2 _ _ la) nofz, ru, q _ _ (fun b w e => ?_) (List.getElem?_eq_getElem il)⟩
    by_cases hb : b = a
    · rw [hb] at e ⊢
      rw [ha] at e
      cases e
      exact upd_same
    · exact (upd_ne hb).trans (j2 _ _ (lb b w hb e))
end
end Lm
set_option Elab.async false
set_option linter.all false
set_option maxRecDepth 100000
set_option maxHeartbeats 400000
/-! deciding: mathematics of the search -/
namespace Lm
open PySem PySem.Spec PyProof.Rows L2
/-! ### weights -/
def mS (m : Fm → Nat) (L : List Fm) : Nat := (L.map m).sum
theorem mS_app (m : Fm → Nat) (A B : List Fm) : mS m (A ++ B) = mS m A + mS m B := by unfold mS; rw [List.map_append, List.sum_append]
theorem mS_cons (m : Fm → Nat) (f : Fm) (B : List Fm) : mS m (f :: B) = m f + mS m B := rfl
theorem mS_nil (m : Fm → Nat) : mS m [] = 0 := rfl
theorem mS_words (L : List Fm) : mS Fm.size L = wordsS L := rfl
theorem mS_onceA (m : Fm → Nat) : ∀ (acc L : List Fm), mS m (onceA acc L) ≤ mS m acc + mS m L
  | acc, [] => Nat.le_refl _
  | acc, f :: fs => by
    rw [onceA]
    have := mS_onceA m (if f ∈ acc then acc else acc ++ [f]) fs
    have e : mS m (if f ∈ acc then acc else acc ++ [f]) ≤ mS m acc + m f := by
      split
      · omega
      · rw [mS_app, mS_cons, mS_nil]; omega
    rw [mS_cons]
    omega
theorem mS_once (m : Fm → Nat) (L : List Fm) : mS m (once L) ≤ mS m L := by
  have := mS_onceA m [] L
  rw [mS_nil] at this
  unfold once
  omega
theorem mS_without (m : Fm → Nat) (L : List Fm) (f : Fm) : mS m (without L f) ≤ mS m L := by
  induction L with
  | nil => exact Nat.le_refl _
  | cons g L ih =>
    unfold without at ih ⊢
    rw [List.filter_cons]
    split
    · rw [mS_cons, mS_cons]; omega
    · rw [mS_cons]; omega
theorem mS_take {m : Fm → Nat} {L : List Fm} {f : Fm} (h : f ∈ L) : mS m (without L f) + m f ≤ mS m L := by
  induction L with
  | nil => cases h
  | cons g L ih =>
    have w := mS_without m L f
    unfold without at ih w ⊢
    rw [List.filter_cons]
    by_cases e : g = f
    · subst e
      rw [if_neg (by simp), mS_cons]
      omega
    · have := ih ((List.mem_cons.mp h).resolve_left fun z => e z.symm)
      rw [if_pos (by simp [e]), mS_cons, mS_cons]
      omega
theorem mS_mem {m : Fm → Nat} {L : List Fm} {f : Fm} (h : f ∈ L) : m f ≤ mS m L := Nat.le_trans (Nat.le_add_left _ _) (mS_take h)
/-- how many and, or, then -/
def Fm.bin : Fm → Nat
  | .sg _ => 0
  | .no f => f.bin
  | .bi _ f g => f.bin + g.bin + 1
def mC (m : Fm → Nat) (c : Cl) : Nat := mS m c.1 + mS m c.2
theorem mC_words (c : Cl) : mC Fm.size c = wordsC c := rfl
/-- what is put in weighs less -/
theorem put_words {w : Wd} {f : Fm} (hw : w = .left ∨ w = .right) {p : Cl} (h : p ∈ putIn w f) : mC Fm.size p + 1 ≤ f.size ∧ mC Fm.bin p ≤ f.bin := by
  rcases hw with rfl | rfl
  · have h : p ∈ putL f := h
    cases f with
    | sg i => cases h
    | no g =>
      simp only [putL, List.mem_cons, List.not_mem_nil, or_false] at h
      subst h
      simp [mC, mS, Fm.size, Fm.bin]
    | bi b g k =>
      cases b <;> simp only [putL, List.mem_cons, List.not_mem_nil, or_false] at h
      · subst h
        simp [mC, mS, Fm.size, Fm.bin]
      · rcases h with rfl | rfl <;> simp [mC, mS, Fm.size, Fm.bin] <;> omega
      · rcases h with rfl | rfl <;> simp [mC, mS, Fm.size, Fm.bin] <;> omega
  · have h : p ∈ putR f := h
    cases f with
    | sg i => cases h
    | no g =>
      simp only [putR, List.mem_cons, List.not_mem_nil, or_false] at h
      subst h
      simp [mC, mS, Fm.size, Fm.bin]
    | bi b g k =>
      cases b <;> simp only [putR, List.mem_cons, List.not_mem_nil, or_false] at h
      · rcases h with rfl | rfl <;> simp [mC, mS, Fm.size, Fm.bin] <;> omega
      · subst h
        simp [mC, mS, Fm.size, Fm.bin]
      · subst h
        simp [mC, mS, Fm.size, Fm.bin]
/-- how many nots -/
def Fm.nos : Fm → Nat
  | .sg _ => 0
  | .no f => f.nos + 1
  | .bi _ f g => f.nos + g.nos
theorem put_nos {w : Wd} {f : Fm} (hw : w = .left ∨ w = .right) {p : Cl} (h : p ∈ putIn w f) : mC Fm.nos p ≤ f.nos := by
  rcases hw with rfl | rfl
  · have h : p ∈ putL f := h
    cases f with
    | sg i => cases h
    | no g =>
      simp only [putL, List.mem_cons, List.not_mem_nil, or_false] at h
      subst h
      simp [mC, mS, Fm.nos]
    | bi b g k =>
      cases b <;> simp only [putL, List.mem_cons, List.not_mem_nil, or_false] at h
      · subst h
        simp [mC, mS, Fm.nos]
      · rcases h with rfl | rfl <;> simp [mC, mS, Fm.nos]
      · rcases h with rfl | rfl <;> simp [mC, mS, Fm.nos]
  · have h : p ∈ putR f := h
    cases f with
    | sg i => cases h
    | no g =>
      simp only [putR, List.mem_cons, List.not_mem_nil, or_false] at h
      subst h
      simp [mC, mS, Fm.nos]
    | bi b g k =>
      cases b <;> simp only [putR, List.mem_cons, List.not_mem_nil, or_false] at h
      · rcases h with rfl | rfl <;> simp [mC, mS, Fm.nos]
      · subst h
        simp [mC, mS, Fm.nos]
      · subst h
        simp [mC, mS, Fm.nos]
/-- one wanted: a word less -/
theorem put_one {w : Wd} {f : Fm} (hw : w = .left ∨ w = .right) (h1 : (putIn w f).length = 1) {p : Cl} (h : p ∈ putIn w f) : mC Fm.bin p + 1 ≤ f.bin ∨ mC Fm.nos p + 1 ≤ f.nos := by
  rcases hw with rfl | rfl
  · have h : p ∈ putL f := h
    have h1 : (putL f).length = 1 := h1
    cases f with
    | sg i => cases h
    | no g =>
      simp only [putL, List.mem_cons, List.not_mem_nil, or_false] at h
      subst h
      right
      simp [mC, mS, Fm.nos]
    | bi b g k =>
      cases b <;> simp only [putL, List.mem_cons, List.not_mem_nil, or_false] at h
      · subst h
        left
        simp [mC, mS, Fm.bin]
      · exact absurd h1 (by simp [putL])
      · exact absurd h1 (by simp [putL])
  · have h : p ∈ putR f := h
    have h1 : (putR f).length = 1 := h1
    cases f with
    | sg i => cases h
    | no g =>
      simp only [putR, List.mem_cons, List.not_mem_nil, or_false] at h
      subst h
      right
      simp [mC, mS, Fm.nos]
    | bi b g k =>
      cases b <;> simp only [putR, List.mem_cons, List.not_mem_nil, or_false] at h
      · exact absurd h1 (by simp [putR])
      · subst h
        left
        simp [mC, mS, Fm.bin]
      · subst h
        left
        simp [mC, mS, Fm.bin]
/-- two wanted: each without a binary word -/
theorem put_two {w : Wd} {f : Fm} (hw : w = .left ∨ w = .right) (h2 : (putIn w f).length = 2) {p : Cl} (h : p ∈ putIn w f) : mC Fm.bin p + 1 ≤ f.bin := by
  rcases hw with rfl | rfl
  · have h : p ∈ putL f := h
    have h2 : (putL f).length = 2 := h2
    cases f with
    | sg i => cases h
    | no g => exact absurd h2 (by simp [putL])
    | bi b g k =>
      cases b <;> simp only [putL, List.mem_cons, List.not_mem_nil, or_false] at h
      · exact absurd h2 (by simp [putL])
      · rcases h with rfl | rfl <;> simp [mC, mS, Fm.bin]
      · rcases h with rfl | rfl <;> simp [mC, mS, Fm.bin]
  · have h : p ∈ putR f := h
    have h2 : (putR f).length = 2 := h2
    cases f with
    | sg i => cases h
    | no g => exact absurd h2 (by simp [putR])
    | bi b g k =>
      cases b <;> simp only [putR, List.mem_cons, List.not_mem_nil, or_false] at h
      · rcases h with rfl | rfl <;> simp [mC, mS, Fm.bin]
      · exact absurd h2 (by simp [putR])
      · exact absurd h2 (by simp [putR])
theorem put_len {w : Wd} {f : Fm} : (putIn w f).length ≤ 2 := by
  cases w with
  | same => exact Nat.zero_le _
  | lem => exact Nat.le_refl _
  | left =>
    show (putL f).length ≤ 2
    cases f with
    | sg i => exact Nat.zero_le _
    | no g => show 1 ≤ 2; decide
    | bi b g k => cases b <;> simp [putL]
  | right =>
    show (putR f).length ≤ 2
    cases f with
    | sg i => exact Nat.zero_le _
    | no g => show 1 ≤ 2; decide
    | bi b g k => cases b <;> simp [putR]
/-- led to: less -/
theorem led_weight {c l : Cl} {w : Wd} {f : Fm} (hw : w = .left ∨ w = .right) (ft : fits c (.fm w f) = true) (h : l ∈ led c w f) : (∀ m : Fm → Nat, ∀ k, (∀ p ∈ putIn w f, mC m p + k ≤ m f) → mC m l + k ≤ mC m c) := by
  intro m k hk
  unfold led at h
  obtain ⟨p, hp, rfl⟩ := List.mem_map.mp h
  have h1 := mS_once m (outOf w .left c.1 f ++ p.1)
  have h2 := mS_once m (outOf w .right c.2 f ++ p.2)
  have h3 := hk p hp
  rw [mS_app] at h1 h2
  unfold mC at h3 ⊢
  rcases hw with rfl | rfl
  · have ft : (decide (f ∈ c.1) && !f.isSg) = true := ft
    rw [Bool.and_eq_true, decide_eq_true_eq] at ft
    have h4 := mS_take (m := m) ft.1
    have h5 : outOf .left .right c.2 f = c.2 := rfl
    have h6 : outOf .left .left c.1 f = without c.1 f := rfl
    rw [h6] at h1
    rw [h5] at h2
    show mS m (once (outOf .left .left c.1 f ++ p.1)) + mS m (once (outOf .left .right c.2 f ++ p.2)) + k ≤ _
    rw [h5, h6]
    omega
  · have ft : (decide (f ∈ c.2) && !f.isSg) = true := ft
    rw [Bool.and_eq_true, decide_eq_true_eq] at ft
    have h4 := mS_take (m := m) ft.1
    have h5 : outOf .right .left c.1 f = c.1 := rfl
    have h6 : outOf .right .right c.2 f = without c.2 f := rfl
    rw [h6] at h2
    rw [h5] at h1
    show mS m (once (outOf .right .left c.1 f ++ p.1)) + mS m (once (outOf .right .right c.2 f ++ p.2)) + k ≤ _
    rw [h5, h6]
    omega
theorem led_words {c l : Cl} {w : Wd} {f : Fm} (hw : w = .left ∨ w = .right) (ft : fits c (.fm w f) = true) (h : l ∈ led c w f) : wordsC l + 1 ≤ wordsC c := led_weight hw ft h Fm.size 1 fun p hp => (put_words hw hp).1
theorem led_bin {c l : Cl} {w : Wd} {f : Fm} (hw : w = .left ∨ w = .right) (ft : fits c (.fm w f) = true) (h : l ∈ led c w f) : mC Fm.bin l ≤ mC Fm.bin c := by
  have := led_weight hw ft h Fm.bin 0 fun p hp => by have := (put_words hw hp).2; omega
  omega
theorem led_two {c l : Cl} {w : Wd} {f : Fm} (hw : w = .left ∨ w = .right) (ft : fits c (.fm w f) = true) (h2 : (putIn w f).length = 2) (h : l ∈ led c w f) : mC Fm.bin l + 1 ≤ mC Fm.bin c := led_weight hw ft h Fm.bin 1 fun p hp => put_two hw h2 hp
theorem led_nos {c l : Cl} {w : Wd} {f : Fm} (hw : w = .left ∨ w = .right) (ft : fits c (.fm w f) = true) (h : l ∈ led c w f) : mC Fm.nos l ≤ mC Fm.nos c := by
  have := led_weight hw ft h Fm.nos 0 fun p hp => by have := put_nos hw hp; omega
  omega
theorem led_one {c l : Cl} {w : Wd} {f : Fm} (hw : w = .left ∨ w = .right) (ft : fits c (.fm w f) = true) (h1 : (putIn w f).length = 1) (h : l ∈ led c w f) : mC Fm.bin l + 1 ≤ mC Fm.bin c ∨ mC Fm.nos l + 1 ≤ mC Fm.nos c := by
  obtain ⟨p, hp⟩ : ∃ p, putIn w f = [p] := List.length_eq_one_iff.mp h1
  rcases put_one hw h1 (p := p) (by rw [hp]; exact List.mem_cons_self) with z | z
  · exact .inl (led_weight hw ft h Fm.bin 1 fun q hq => by rw [hp] at hq; rw [List.mem_singleton.mp hq]; exact z)
  · exact .inr (led_weight hw ft h Fm.nos 1 fun q hq => by rw [hp] at hq; rw [List.mem_singleton.mp hq]; exact z)
theorem led_len {c : Cl} {w : Wd} {f : Fm} : (led c w f).length = (putIn w f).length := by unfold led; rw [List.length_map]
theorem led_nodup {c l : Cl} {w : Wd} {f : Fm} (h : l ∈ led c w f) : l.1.Nodup ∧ l.2.Nodup := by
  unfold led at h
  obtain ⟨p, hp, rfl⟩ := List.mem_map.mp h
  exact ⟨nodup_once _, nodup_once _⟩
/-- .. in what is wider, more -/
theorem led_mono {c e : Cl} {w : Wd} {f : Fm} (s : Sub c e) {i : Nat} {l : Cl} (h : (led c w f)[i]? = some l) : ∃ l', (led e w f)[i]? = some l' ∧ Sub l l' := by
  unfold led at h ⊢
  rw [List.getElem?_map] at h ⊢
  cases hp : (putIn w f)[i]? with
  | none => rw [hp] at h; cases h
  | some p =>
    rw [hp] at h
    cases h
    have om : ∀ {v : Wd} {A B : List Fm}, (∀ x ∈ A, x ∈ B) → ∀ x ∈ outOf w v A f, x ∈ outOf w v B f := fun {v A B} h x hx => by
      have hx : x ∈ (if w = v then without A f else A) := hx
      show x ∈ (if w = v then without B f else B)
      by_cases z : w = v
      · rw [if_pos z] at hx ⊢
        exact mem_without.mpr ⟨h x (mem_without.mp hx).1, (mem_without.mp hx).2⟩
      · rw [if_neg z] at hx ⊢
        exact h x hx
    have am : ∀ {v : Wd} {A B C : List Fm}, (∀ x ∈ A, x ∈ B) → ∀ x ∈ once (outOf w v A f ++ C), x ∈ once (outOf w v B f ++ C) := fun {v A B C} h x hx => by
      rw [mem_once] at hx ⊢
      rcases List.mem_append.mp hx with z | z
      · exact List.mem_append_left _ (om h x z)
      · exact List.mem_append_right _ z
    exact ⟨_, rfl, am s.1, am s.2⟩
theorem fits_mono {c e : Cl} {w : Wd} {f : Fm} (s : Sub c e) (h : fits c (.fm w f) = true) : fits e (.fm w f) = true := by
  cases w with
  | same =>
    have h : (decide (f ∈ c.1) && decide (f ∈ c.2)) = true := h
    rw [Bool.and_eq_true, decide_eq_true_eq, decide_eq_true_eq] at h
    show (decide (f ∈ e.1) && decide (f ∈ e.2)) = true
    rw [decide_eq_true (s.1 f h.1), decide_eq_true (s.2 f h.2)]; rfl
  | lem => rfl
  | left =>
    have h : (decide (f ∈ c.1) && !f.isSg) = true := h
    rw [Bool.and_eq_true, decide_eq_true_eq] at h
    show (decide (f ∈ e.1) && !f.isSg) = true
    rw [decide_eq_true (s.1 f h.1), h.2]; rfl
  | right =>
    have h : (decide (f ∈ c.2) && !f.isSg) = true := h
    rw [Bool.and_eq_true, decide_eq_true_eq] at h
    show (decide (f ∈ e.2) && !f.isSg) = true
    rw [decide_eq_true (s.2 f h.1), h.2]; rfl
theorem sub_refl (c : Cl) : Sub c c := ⟨fun _ h => h, fun _ h => h⟩
theorem Sub.trans {a b c : Cl} (h : Sub a b) (k : Sub b c) : Sub a c := ⟨fun f z => k.1 f (h.1 f z), fun f z => k.2 f (h.2 f z)⟩
end Lm
set_option Elab.async false
set_option linter.all false
set_option maxRecDepth 100000
set_option maxHeartbeats 400000
/-! the search: its rule, its proofs, its worlds -/
namespace Lm
open PySem PySem.Spec PyProof.Rows L2
def Fails (S : Int → Bool) (c : Cl) : Prop := (∀ f ∈ c.1, f.tr S = true) ∧ ∀ f ∈ c.2, f.tr S = false
theorem fails_not {S : Int → Bool} {c : Cl} (h : Fails S c) : ¬ HoldsC S c := fun k => by
  obtain ⟨g, hg, t⟩ := k h.1
  rw [h.2 g hg] at t
  cases t
theorem fails_once {S : Int → Bool} {A B : List Fm} (h : Fails S (once A, once B)) : Fails S (A, B) := ⟨fun f hf => h.1 f (mem_once.mpr hf), fun f hf => h.2 f (mem_once.mpr hf)⟩
/-- what fails for what is wanted fails for the claim -/
theorem fails_led {S : Int → Bool} {c l : Cl} {w : Wd} {f : Fm} (hw : w = .left ∨ w = .right) (hm : l ∈ led c w f) (k : Fails S l) : Fails S c := by
  unfold led at hm
  obtain ⟨p, hp, rfl⟩ := List.mem_map.mp hm
  have k := fails_once k
  have k1 : ∀ x ∈ outOf w .left c.1 f, x.tr S = true := fun x hx => k.1 x (List.mem_append_left _ hx)
  have k2 : ∀ x ∈ outOf w .right c.2 f, x.tr S = false := fun x hx => k.2 x (List.mem_append_left _ hx)
  have p1 : ∀ x ∈ p.1, x.tr S = true := fun x hx => k.1 x (List.mem_append_right _ hx)
  have p2 : ∀ x ∈ p.2, x.tr S = false := fun x hx => k.2 x (List.mem_append_right _ hx)
  rcases hw with rfl | rfl
  · have hp : p ∈ putL f := hp
    have k1 : ∀ x ∈ without c.1 f, x.tr S = true := k1
    have tf : f.tr S = true := by
      cases f with
      | sg i => cases hp
      | no g =>
        simp only [putL, List.mem_cons, List.not_mem_nil, or_false] at hp
        subst hp
        show (!g.tr S) = true
        rw [p2 g List.mem_cons_self]; rfl
      | bi b g h =>
        cases b <;> simp only [putL, List.mem_cons, List.not_mem_nil, or_false] at hp
        · subst hp
          show (g.tr S && h.tr S) = true
          rw [p1 g List.mem_cons_self, p1 h (List.mem_cons_of_mem _ List.mem_cons_self)]; rfl
        · rcases hp with rfl | rfl
          · show (g.tr S || h.tr S) = true
            rw [p1 g List.mem_cons_self]; rfl
          · show (g.tr S || h.tr S) = true
            rw [p1 h List.mem_cons_self, Bool.or_true]
        · rcases hp with rfl | rfl
          · show (!g.tr S || h.tr S) = true
            rw [p2 g List.mem_cons_self]; rfl
          · show (!g.tr S || h.tr S) = true
            rw [p1 h List.mem_cons_self, Bool.or_true]
    refine ⟨fun x hx => ?_, k2⟩
    by_cases e : x = f
    · rw [e]; exact tf
    · exact k1 x (mem_without.mpr ⟨hx, e⟩)
  · have hp : p ∈ putR f := hp
    have k2 : ∀ x ∈ without c.2 f, x.tr S = false := k2
    have tf : f.tr S = false := by
      cases f with
      | sg i => cases hp
      | no g =>
        simp only [putR, List.mem_cons, List.not_mem_nil, or_false] at hp
        subst hp
        show (!g.tr S) = false
        rw [p1 g List.mem_cons_self]; rfl
      | bi b g h =>
        cases b <;> simp only [putR, List.mem_cons, List.not_mem_nil, or_false] at hp
        · rcases hp with rfl | rfl
          · show (g.tr S && h.tr S) = false
            rw [p2 g List.mem_cons_self]; rfl
          · show (g.tr S && h.tr S) = false
            rw [p2 h List.mem_cons_self, Bool.and_false]
        · subst hp
          show (g.tr S || h.tr S) = false
          rw [p2 g List.mem_cons_self, p2 h (List.mem_cons_of_mem _ List.mem_cons_self)]; rfl
        · subst hp
          show (!g.tr S || h.tr S) = false
          rw [p1 g List.mem_cons_self, p2 h List.mem_cons_self]; rfl
    refine ⟨k1, fun x hx => ?_⟩
    by_cases e : x = f
    · rw [e]; exact tf
    · exact k2 x (mem_without.mpr ⟨hx, e⟩)
/-! ### the rule to go on with -/
def shut (c p : Cl) : Bool := p.1.any (fun f => decide (f ∈ c.2)) || p.2.any fun f => decide (f ∈ c.1)
def manyOpen (c : Cl) (w : Wd) (f : Fm) : Nat := ((putIn w f).filter fun p => !shut c p).length
def rulesOf (c : Cl) : List (Wd × Fm) := ((c.1.filter fun f => !f.isSg).map fun f => (Wd.left, f)) ++ (c.2.filter fun f => !f.isSg).map fun f => (Wd.right, f)
def keysOf (c : Cl) : List (Int × Int) := (rulesOf c).map fun r => ((manyOpen c r.1 r.2 : Int), -(r.2.size : Int))
def nextRule (c : Cl) : Option (Wd × Fm) :=
  match c.1.find? fun f => decide (f ∈ c.2) with
  | some f => some (.same, f)
  | none => (rulesOf c)[bestOf (keysOf c)]?
theorem argBest_le (bt : Nat → Nat → Bool) : ∀ k : Nat, argBest bt k ≤ k
  | 0 => Nat.le_refl _
  | k + 1 => by
    have := argBest_le bt k
    unfold argBest
    split <;> omega
theorem best_lt {ks : List (Int × Int)} (h : ks ≠ []) : bestOf ks < ks.length := by
  have := argBest_le (fun i j => HT.lexLt (keyAt ks i) (keyAt ks j)) (ks.length - 1)
  have := List.length_pos_iff.mpr h
  unfold bestOf
  omega
theorem rules_fit {c : Cl} {r : Wd × Fm} (h : r ∈ rulesOf c) : (r.1 = .left ∨ r.1 = .right) ∧ fits c (.fm r.1 r.2) = true := by
  unfold rulesOf at h
  rcases List.mem_append.mp h with h | h
  · obtain ⟨f, hf, rfl⟩ := List.mem_map.mp h
    rw [List.mem_filter] at hf
    refine ⟨.inl rfl, ?_⟩
    show (decide (f ∈ c.1) && !f.isSg) = true
    rw [decide_eq_true hf.1, hf.2]; rfl
  · obtain ⟨f, hf, rfl⟩ := List.mem_map.mp h
    rw [List.mem_filter] at hf
    refine ⟨.inr rfl, ?_⟩
    show (decide (f ∈ c.2) && !f.isSg) = true
    rw [decide_eq_true hf.1, hf.2]; rfl
theorem next_some {c : Cl} {w : Wd} {f : Fm} (h : nextRule c = some (w, f)) : (w = .same ∨ w = .left ∨ w = .right) ∧ fits c (.fm w f) = true := by
  unfold nextRule at h
  split at h
  · rename_i g e
    cases h
    refine ⟨.inl rfl, ?_⟩
    have m := List.mem_of_find?_eq_some e
    have q : decide (f ∈ c.2) = true := List.find?_some (p := fun f => decide (f ∈ c.2)) e
    show (decide (f ∈ c.1) && decide (f ∈ c.2)) = true
    rw [decide_eq_true m, q]; rfl
  · have m := List.mem_of_getElem? h
    obtain ⟨a, b⟩ := rules_fit m
    exact ⟨.inr a, b⟩
theorem rules_nil {c : Cl} (h : rulesOf c = []) : (∀ f ∈ c.1, f.isSg = true) ∧ ∀ f ∈ c.2, f.isSg = true := by
  unfold rulesOf at h
  rw [List.append_eq_nil_iff, List.map_eq_nil_iff, List.map_eq_nil_iff, List.filter_eq_nil_iff, List.filter_eq_nil_iff] at h
  exact ⟨fun f hf => by have := h.1 f hf; simpa using this, fun f hf => by have := h.2 f hf; simpa using this⟩
theorem next_none {c : Cl} (h : nextRule c = none) : (∀ f ∈ c.1, f ∉ c.2) ∧ (∀ f ∈ c.1, f.isSg = true) ∧ ∀ f ∈ c.2, f.isSg = true := by
  unfold nextRule at h
  split at h
  · cases h
  · rename_i e
    have e0 := List.find?_eq_none.mp e
    refine ⟨fun f hf => by have := e0 f hf; simpa using this, rules_nil ?_⟩
    cases z : rulesOf c with
    | nil => rfl
    | cons r rs =>
      have ne : keysOf c ≠ [] := by unfold keysOf; rw [z]; exact fun y => nomatch y
      have l := best_lt ne
      have l2 : (keysOf c).length = (rulesOf c).length := by unfold keysOf; rw [List.length_map]
      rw [List.getElem?_eq_getElem (by omega)] at h
      cases h
def sgNo : Fm → Int
  | .sg i => i
  | _ => 0
/-! ### proofs -/
inductive Pr where
  | mk (w : Wd) (f : Fm) (inner : List Pr) (c : Cl)
def Pr.w : Pr → Wd
  | .mk w _ _ _ => w
def Pr.f : Pr → Fm
  | .mk _ f _ _ => f
def Pr.inner : Pr → List Pr
  | .mk _ _ i _ => i
def Pr.c : Pr → Cl
  | .mk _ _ _ c => c
/-- it shows its claim, and is no deeper than n -/
def PrOk : Nat → Pr → Prop
  | 0, _ => False
  | n + 1, p => (p.w = .same ∨ p.w = .left ∨ p.w = .right) ∧ p.f.good ∧ p.f.dep ≤ 12 ∧ fits p.c (.fm p.w p.f) = true ∧ p.inner.length = (putIn p.w p.f).length ∧
    ∀ (i : Nat) (q : Pr), p.inner[i]? = some q → PrOk n q ∧ ∃ l, (led p.c p.w p.f)[i]? = some l ∧ Sub q.c l
theorem PrOk.up : ∀ {n : Nat} {p : Pr}, PrOk n p → PrOk (n + 1) p
  | n + 1, p, ⟨a, b, c, d, e, f⟩ => ⟨a, b, c, d, e, fun i q h => ⟨(f i q h).1.up, (f i q h).2⟩⟩
/-- how many rules it tells -/
def cnt : Nat → Pr → Nat
  | 0, _ => 0
  | n + 1, p => 1 + (p.inner.map (cnt n)).sum
theorem sum_mono {α : Type} {f g : α → Nat} : ∀ {l : List α}, (∀ x ∈ l, f x ≤ g x) → (l.map f).sum ≤ (l.map g).sum
  | [], _ => Nat.le_refl _
  | x :: l, h => by
    have := sum_mono (l := l) fun y hy => h y (List.mem_cons_of_mem _ hy)
    have := h x List.mem_cons_self
    simp only [List.map_cons, List.sum_cons]
    omega
theorem cnt_up : ∀ {n : Nat} {p : Pr}, PrOk n p → cnt (n + 1) p = cnt n p
  | n + 1, p, ⟨_, _, _, _, _, h⟩ => by
    show 1 + (p.inner.map (cnt (n + 1))).sum = 1 + (p.inner.map (cnt n)).sum
    congr 2
    refine List.map_congr_left fun q hq => ?_
    obtain ⟨i, hi⟩ := List.getElem?_of_mem hq
    exact cnt_up (h i q hi).1
inductive Res where
  | world (ws : List Int)
  | proof (p : Pr)
def rested (c : Cl) (w : Wd) (f : Fm) (inner : List Pr) : Cl :=
  ((c.1.filter fun x => inner.any fun p => decide (x ∈ p.c.1)) ++ (if w = .right then [] else [f]), (c.2.filter fun x => inner.any fun p => decide (x ∈ p.c.2)) ++ (if w = .left then [] else [f]))
def searchL (g : Cl → Res) (c : Cl) : List Cl → List Pr → Res ⊕ List Pr
  | [], acc => .inr acc
  | a :: as, acc =>
    match g a with
    | .world ws => .inl (.world ws)
    | .proof p => if Sub p.c c then .inl (.proof p) else searchL g c as (acc ++ [p])
def search : Nat → Cl → Res
  | 0, _ => .world []
  | n + 1, c =>
    match nextRule c with
    | none => .world (c.1.map sgNo)
    | some (w, f) =>
      match searchL (search n) c (led c w f) [] with
      | .inl r => r
      | .inr inner => .proof (.mk w f inner (rested c w f inner))
end Lm
set_option Elab.async false
set_option linter.all false
set_option maxRecDepth 100000
set_option maxHeartbeats 400000
/-! the search is right -/
namespace Lm
open PySem PySem.Spec PyProof.Rows L2
/-- what a claim is that is searched -/
structure CS (c : Cl) : Prop where
  gd : GdC c
  n1 : c.1.Nodup
  n2 : c.2.Nodup
theorem fit_good {c : Cl} {w : Wd} {f : Fm} (g : GdC c) (hw : w = .same ∨ w = .left ∨ w = .right) (ft : fits c (.fm w f) = true) : f.good ∧ f.dep ≤ 12 ∧ (f ∈ c.1 ∨ f ∈ c.2) := by
  rcases hw with rfl | rfl | rfl
  · have ft : (decide (f ∈ c.1) && decide (f ∈ c.2)) = true := ft
    rw [Bool.and_eq_true, decide_eq_true_eq, decide_eq_true_eq] at ft
    exact ⟨(g.1 f ft.1).1, (g.1 f ft.1).2, .inl ft.1⟩
  · have ft : (decide (f ∈ c.1) && !f.isSg) = true := ft
    rw [Bool.and_eq_true, decide_eq_true_eq] at ft
    exact ⟨(g.1 f ft.1).1, (g.1 f ft.1).2, .inl ft.1⟩
  · have ft : (decide (f ∈ c.2) && !f.isSg) = true := ft
    rw [Bool.and_eq_true, decide_eq_true_eq] at ft
    exact ⟨(g.2 f ft.1).1, (g.2 f ft.1).2, .inr ft.1⟩
/-- what is put in: parts -/
theorem put_parts {w : Wd} {f : Fm} (hw : w = .same ∨ w = .left ∨ w = .right) {p : Cl} (h : p ∈ putIn w f) : ∀ x, (x ∈ p.1 ∨ x ∈ p.2) → x ∈ f.kids := by
  intro x hx
  rcases hw with rfl | rfl | rfl
  · cases h
  · have h : p ∈ putL f := h
    cases f with
    | sg i => cases h
    | no g =>
      simp only [putL, List.mem_cons, List.not_mem_nil, or_false] at h
      subst h
      simpa [Fm.kids] using hx
    | bi b g k =>
      cases b <;> simp only [putL, List.mem_cons, List.not_mem_nil, or_false] at h
      · subst h
        simpa [Fm.kids] using hx
      · rcases h with rfl | rfl
        · simp at hx; simp [Fm.kids, hx]
        · simp at hx; simp [Fm.kids, hx]
      · rcases h with rfl | rfl
        · simp at hx; simp [Fm.kids, hx]
        · simp at hx; simp [Fm.kids, hx]
  · have h : p ∈ putR f := h
    cases f with
    | sg i => cases h
    | no g =>
      simp only [putR, List.mem_cons, List.not_mem_nil, or_false] at h
      subst h
      simpa [Fm.kids] using hx
    | bi b g k =>
      cases b <;> simp only [putR, List.mem_cons, List.not_mem_nil, or_false] at h
      · rcases h with rfl | rfl
        · simp at hx; simp [Fm.kids, hx]
        · simp at hx; simp [Fm.kids, hx]
      · subst h
        simpa [Fm.kids] using hx
      · subst h
        rcases hx with hx | hx
        · simp at hx; simp [Fm.kids, hx]
        · simp at hx; simp [Fm.kids, hx]
theorem kid_ok {f x : Fm} (g : f.good) (d : f.dep ≤ 12) (h : x ∈ f.kids) : x.good ∧ x.dep ≤ 12 := by
  cases f with
  | sg i => cases h
  | no k =>
    have d : k.dep + 1 ≤ 12 := d
    rw [List.mem_singleton.mp h]
    exact ⟨g, by omega⟩
  | bi b k l =>
    have d : max k.dep l.dep + 1 ≤ 12 := d
    have h : x ∈ [k, l] := h
    simp only [List.mem_cons, List.not_mem_nil, or_false] at h
    rcases h with rfl | rfl
    · exact ⟨g.1, by omega⟩
    · exact ⟨g.2, by omega⟩
theorem led_CS {c l : Cl} {w : Wd} {f : Fm} (h : CS c) (hw : w = .same ∨ w = .left ∨ w = .right) (ft : fits c (.fm w f) = true) (hl : l ∈ led c w f) : CS l := by
  obtain ⟨a, b⟩ := led_nodup hl
  obtain ⟨gf, df, _⟩ := fit_good h.gd hw ft
  unfold led at hl
  obtain ⟨p, hp, rfl⟩ := List.mem_map.mp hl
  have pk : ∀ x, (x ∈ p.1 ∨ x ∈ p.2) → x.good ∧ x.dep ≤ 12 := fun x hx => kid_ok gf df (put_parts hw hp x hx)
  have og : ∀ {v : Wd} {L : List Fm}, Gd L → Gd (outOf w v L f) := fun {v L} g => by
    show Gd (if w = v then without L f else L)
    by_cases e : w = v
    · rw [if_pos e]; exact fun k hk => g k (mem_without.mp hk).1
    · rw [if_neg e]; exact g
  exact ⟨⟨gd_once (gd_app (og h.gd.1) fun x hx => pk x (.inl hx)), gd_once (gd_app (og h.gd.2) fun x hx => pk x (.inr hx))⟩, a, b⟩
/-- what a proof of so many claims rests on shows the claim -/
theorem rested_sub {c : Cl} {w : Wd} {f : Fm} {inner : List Pr} (hw : w = .same ∨ w = .left ∨ w = .right) (ft : fits c (.fm w f) = true) : Sub (rested c w f inner) c := by
  constructor
  · intro x hx
    have hx : x ∈ (c.1.filter fun x => inner.any fun p => decide (x ∈ p.c.1)) ++ (if w = .right then [] else [f]) := hx
    rcases List.mem_append.mp hx with z | z
    · exact (List.mem_filter.mp z).1
    · rcases hw with rfl | rfl | rfl
      · rw [List.mem_singleton.mp z]
        have ft : (decide (f ∈ c.1) && decide (f ∈ c.2)) = true := ft
        rw [Bool.and_eq_true, decide_eq_true_eq, decide_eq_true_eq] at ft
        exact ft.1
      · rw [List.mem_singleton.mp z]
        have ft : (decide (f ∈ c.1) && !f.isSg) = true := ft
        rw [Bool.and_eq_true, decide_eq_true_eq] at ft
        exact ft.1
      · cases z
  · intro x hx
    have hx : x ∈ (c.2.filter fun x => inner.any fun p => decide (x ∈ p.c.2)) ++ (if w = .left then [] else [f]) := hx
    rcases List.mem_append.mp hx with z | z
    · exact (List.mem_filter.mp z).1
    · rcases hw with rfl | rfl | rfl
      · rw [List.mem_singleton.mp z]
        have ft : (decide (f ∈ c.1) && decide (f ∈ c.2)) = true := ft
        rw [Bool.and_eq_true, decide_eq_true_eq, decide_eq_true_eq] at ft
        exact ft.2
      · cases z
      · rw [List.mem_singleton.mp z]
        have ft : (decide (f ∈ c.2) && !f.isSg) = true := ft
        rw [Bool.and_eq_true, decide_eq_true_eq] at ft
        exact ft.1
theorem rested_fits {c : Cl} {w : Wd} {f : Fm} {inner : List Pr} (hw : w = .same ∨ w = .left ∨ w = .right) (ft : fits c (.fm w f) = true) : fits (rested c w f inner) (.fm w f) = true := by
  have m1 : w ≠ .right → f ∈ (rested c w f inner).1 := fun n => List.mem_append_right _ (by rw [if_neg n]; exact List.mem_cons_self)
  have m2 : w ≠ .left → f ∈ (rested c w f inner).2 := fun n => List.mem_append_right _ (by rw [if_neg n]; exact List.mem_cons_self)
  rcases hw with rfl | rfl | rfl
  · show (decide (f ∈ (rested c .same f inner).1) && decide (f ∈ (rested c .same f inner).2)) = true
    rw [decide_eq_true (m1 (by decide)), decide_eq_true (m2 (by decide))]; rfl
  · have ft : (decide (f ∈ c.1) && !f.isSg) = true := ft
    rw [Bool.and_eq_true] at ft
    show (decide (f ∈ (rested c .left f inner).1) && !f.isSg) = true
    rw [decide_eq_true (m1 (by decide)), ft.2]; rfl
  · have ft : (decide (f ∈ c.2) && !f.isSg) = true := ft
    rw [Bool.and_eq_true] at ft
    show (decide (f ∈ (rested c .right f inner).2) && !f.isSg) = true
    rw [decide_eq_true (m2 (by decide)), ft.2]; rfl
theorem rested_led {c : Cl} {w : Wd} {f : Fm} {inner : List Pr} {i : Nat} {q : Pr} {l : Cl} (hq : inner[i]? = some q) (hl : (led c w f)[i]? = some l) (s : Sub q.c l) : ∃ l', (led (rested c w f inner) w f)[i]? = some l' ∧ Sub q.c l' := by
  unfold led at hl ⊢
  rw [List.getElem?_map] at hl ⊢
  have qm := List.mem_of_getElem? hq
  cases hp : (putIn w f)[i]? with
  | none => rw [hp] at hl; cases hl
  | some p =>
    rw [hp] at hl
    cases hl
    have side : ∀ {v : Wd} {A R C : List Fm} {x : Fm}, (x ∈ A → x ∈ R) → x ∈ once (outOf w v A f ++ C) → x ∈ once (outOf w v R f ++ C) := fun {v A R C x} h hx => by
      rw [mem_once] at hx ⊢
      rcases List.mem_append.mp hx with z | z
      · refine List.mem_append_left _ ?_
        have z : x ∈ (if w = v then without A f else A) := z
        show x ∈ (if w = v then without R f else R)
        by_cases e : w = v
        · rw [if_pos e] at z ⊢
          exact mem_without.mpr ⟨h (mem_without.mp z).1, (mem_without.mp z).2⟩
        · rw [if_neg e] at z ⊢
          exact h z
      · exact List.mem_append_right _ z
    refine ⟨_, rfl, fun x hx => side (fun z => ?_) (s.1 x hx), fun x hx => side (fun z => ?_) (s.2 x hx)⟩
    · exact List.mem_append_left _ (List.mem_filter.mpr ⟨z, List.any_eq_true.mpr ⟨q, qm, decide_eq_true hx⟩⟩)
    · exact List.mem_append_left _ (List.mem_filter.mpr ⟨z, List.any_eq_true.mpr ⟨q, qm, decide_eq_true hx⟩⟩)
/-! ### the worlds -/
theorem nodup_sg : ∀ {L : List Fm}, L.Nodup → (∀ f ∈ L, f.isSg = true) → (L.map sgNo).Nodup
  | [], _, _ => List.nodup_nil
  | f :: L, h, k => by
    obtain ⟨a, b⟩ := List.nodup_cons.mp h
    rw [List.map_cons, List.nodup_cons]
    refine ⟨fun z => ?_, nodup_sg b fun g hg => k g (List.mem_cons_of_mem _ hg)⟩
    obtain ⟨g, hg, e⟩ := List.mem_map.mp z
    have kf := k f List.mem_cons_self
    have kg := k g (List.mem_cons_of_mem _ hg)
    cases f with
    | sg i =>
      cases g with
      | sg j =>
        have e : j = i := e
        subst e
        exact a hg
      | _ => cases kg
    | _ => cases kf
def setOf' (ws : List Int) (i : Int) : Bool := decide (i ∈ ws)
structure WorldOk (ws : List Int) (c : Cl) : Prop where
  nd : ws.Nodup
  rng : ∀ i ∈ ws, 0 ≤ i ∧ i ≤ 99
  fl : Fails (setOf' ws) c
theorem world_end {c : Cl} (h : CS c) (n : nextRule c = none) : WorldOk (c.1.map sgNo) c := by
  obtain ⟨a, b1, b2⟩ := next_none n
  refine ⟨nodup_sg h.n1 b1, fun i hi => ?_, fun f hf => ?_, fun f hf => ?_⟩
  · obtain ⟨f, hf, rfl⟩ := List.mem_map.mp hi
    have g := (h.gd.1 f hf).1
    have k := b1 f hf
    cases f with
    | sg j => exact g
    | _ => cases k
  · have k := b1 f hf
    cases f with
    | sg j => exact decide_eq_true (List.mem_map.mpr ⟨_, hf, rfl⟩)
    | _ => cases k
  · have k := b2 f hf
    cases f with
    | sg j =>
      refine decide_eq_false fun z => ?_
      obtain ⟨g, hg, e⟩ := List.mem_map.mp z
      have kg := b1 g hg
      cases g with
      | sg l =>
        have e : l = j := e
        subst e
        exact a _ hg hf
      | _ => cases kg
    | _ => cases k
def lim (c : Cl) : Nat := 2 ^ mC Fm.bin c * (mC Fm.nos c + 2)
def ResOk (n : Nat) (c : Cl) : Res → Prop
  | .world ws => WorldOk ws c
  | .proof p => PrOk n p ∧ Sub p.c c ∧ cnt n p + 1 ≤ lim c
theorem pow_pos' (n : Nat) : 1 ≤ 2 ^ n := Nat.one_le_two_pow
/-- the turns over what is wanted -/
theorem searchL_ok {g : Cl → Res} {n : Nat} {c : Cl} : ∀ (ls : List Cl) (acc : List Pr), (∀ l ∈ ls, ResOk n l (g l)) →
    (match searchL g c ls acc with
      | .inl (.world ws) => ∃ l ∈ ls, WorldOk ws l
      | .inl (.proof p) => PrOk n p ∧ Sub p.c c ∧ ∃ l ∈ ls, cnt n p + 1 ≤ lim l
      | .inr inner => ∃ qs, inner = acc ++ qs ∧ qs.length = ls.length ∧ ∀ (i : Nat) (q : Pr), qs[i]? = some q → PrOk n q ∧ ∃ l, ls[i]? = some l ∧ Sub q.c l ∧ cnt n q + 1 ≤ lim l)
  | [], acc, _ => ⟨[], (List.append_nil _).symm, rfl, fun i q h => (nomatch h)⟩
  | a :: as, acc, h => by
    have ha := h a List.mem_cons_self
    rw [searchL]
    cases e : g a with
    | world ws =>
      rw [e] at ha
      exact ⟨a, List.mem_cons_self, ha⟩
    | proof p =>
      rw [e] at ha
      obtain ⟨h1, h2, h3⟩ := ha
      dsimp only
      by_cases s : Sub p.c c
      · rw [if_pos s]
        exact ⟨h1, s, a, List.mem_cons_self, h3⟩
      · rw [if_neg s]
        have ih := searchL_ok (g := g) (n := n) (c := c) as (acc ++ [p]) fun l hl => h l (List.mem_cons_of_mem _ hl)
        revert ih
        cases searchL g c as (acc ++ [p]) with
        | inl r =>
          cases r with
          | world ws => exact fun ⟨l, hl, k⟩ => ⟨l, List.mem_cons_of_mem _ hl, k⟩
          | proof q => exact fun ⟨k1, k2, l, hl, k3⟩ => ⟨k1, k2, l, List.mem_cons_of_mem _ hl, k3⟩
        | inr inner =>
          rintro ⟨qs, rfl, l1, l2⟩
          refine ⟨p :: qs, by rw [List.append_assoc]; rfl, by rw [List.length_cons, List.length_cons, l1], fun i q hq => ?_⟩
          cases i with
          | zero => cases hq; exact ⟨h1, a, rfl, h2, h3⟩
          | succ i => exact l2 i q hq
theorem search_ok : ∀ (n : Nat) (c : Cl), CS c → wordsC c < n → ResOk n c (search n c)
  | 0, c, _, h => absurd h (Nat.not_lt_zero _)
  | n + 1, c, cs, hn => by
    rw [search]
    cases e : nextRule c with
    | none => exact world_end cs e
    | some wf =>
      obtain ⟨w, f⟩ := wf
      obtain ⟨hw, ft⟩ := next_some e
      obtain ⟨gf, df, fm⟩ := fit_good cs.gd hw ft
      have wpos : 1 ≤ wordsC c := by
        have := f.size_pos
        rcases fm with z | z
        · have := mS_mem (m := Fm.size) z
          show 1 ≤ wordsS c.1 + wordsS c.2
          rw [← mS_words, ← mS_words]
          omega
        · have := mS_mem (m := Fm.size) z
          show 1 ≤ wordsS c.1 + wordsS c.2
          rw [← mS_words, ← mS_words]
          omega
      have all : ∀ l ∈ led c w f, (w = .left ∨ w = .right) ∧ wordsC l + 1 ≤ wordsC c ∧ mC Fm.bin l ≤ mC Fm.bin c ∧ ((putIn w f).length = 2 → mC Fm.bin l + 1 ≤ mC Fm.bin c) ∧ mC Fm.nos l ≤ mC Fm.nos c ∧ ((putIn w f).length = 1 → mC Fm.bin l + 1 ≤ mC Fm.bin c ∨ mC Fm.nos l + 1 ≤ mC Fm.nos c) := fun l hl => by
        rcases hw with rfl | hw
        · cases hl
        · exact ⟨hw, led_words hw ft hl, led_bin hw ft hl, fun h2 => led_two hw ft h2 hl, led_nos hw ft hl, fun h1 => led_one hw ft h1 hl⟩
      have ih := searchL_ok (g := search n) (n := n) (c := c) (led c w f) [] fun l hl => search_ok n l (led_CS cs hw ft hl) (by have := (all l hl).2.1; omega)
      have low : ∀ l ∈ led c w f, lim l ≤ lim c := fun l hl => by
        obtain ⟨_, a1, a2, _, a4, _⟩ := all l hl
        exact Nat.mul_le_mul (Nat.pow_le_pow_right (by decide) a2) (by omega)
      dsimp only
      revert ih
      cases searchL (search n) c (led c w f) [] with
      | inl r =>
        cases r with
        | world ws =>
          rintro ⟨l, hl, k⟩
          exact ⟨k.nd, k.rng, fails_led (all l hl).1 hl k.fl⟩
        | proof p =>
          rintro ⟨k1, k2, l, hl, k3⟩
          exact ⟨k1.up, k2, by rw [cnt_up k1]; exact Nat.le_trans k3 (low l hl)⟩
      | inr inner =>
        rintro ⟨qs, e0, l1, l2⟩
        rw [List.nil_append] at e0
        subst e0
        have sc : Sub (rested c w f inner) c := rested_sub hw ft
        refine ⟨⟨hw, gf, df, rested_fits hw ft, by rw [show (Pr.mk w f inner (rested c w f inner)).inner = inner from rfl, l1, led_len]; rfl, fun i q hq => ?_⟩, sc, ?_⟩
        · obtain ⟨a, l, b, s, _⟩ := l2 i q hq
          exact ⟨a, rested_led hq b s⟩
        · show 1 + (inner.map (cnt n)).sum + 1 ≤ lim c
          have p2 : (putIn w f).length ≤ 2 := put_len
          have il : inner.length = (putIn w f).length := by rw [l1, led_len]
          have bnd : ∀ (i : Nat) (q : Pr), inner[i]? = some q → ∃ l ∈ led c w f, cnt n q + 1 ≤ lim l := fun i q hq => by
            obtain ⟨_, l, b, _, k⟩ := l2 i q hq
            exact ⟨l, List.mem_of_getElem? b, k⟩
          have pw := pow_pos' (mC Fm.bin c)
          match inner, il, bnd with
          | [], _, _ =>
            show 1 + 0 + 1 ≤ 2 ^ mC Fm.bin c * (mC Fm.nos c + 2)
            exact Nat.le_trans (by omega : 2 ≤ 1 * (mC Fm.nos c + 2)) (Nat.mul_le_mul_right _ pw)
          | [q], il, bnd =>
            have il : 1 = (putIn w f).length := il
            obtain ⟨l, hl, k⟩ := bnd 0 q rfl
            obtain ⟨_, a1, a2, _, a4, a5⟩ := all l hl
            show 1 + (cnt n q + 0) + 1 ≤ 2 ^ mC Fm.bin c * (mC Fm.nos c + 2)
            have h1 : lim l + 1 ≤ 2 ^ mC Fm.bin c * (mC Fm.nos c + 2) := by
              rcases a5 il.symm with z | z
              · obtain ⟨m, hm⟩ : ∃ m, mC Fm.bin c = m + 1 := ⟨mC Fm.bin c - 1, by omega⟩
                have h2 : lim l ≤ 2 ^ m * (mC Fm.nos c + 2) := Nat.mul_le_mul (Nat.pow_le_pow_right (by decide) (by omega)) (by omega)
                have h3 : 1 * (mC Fm.nos c + 2) ≤ 2 ^ m * (mC Fm.nos c + 2) := Nat.mul_le_mul_right _ (pow_pos' m)
                rw [hm, Nat.pow_succ, Nat.mul_assoc, Nat.mul_comm 2, ← Nat.mul_assoc]
                omega
              · have h2 : lim l ≤ 2 ^ mC Fm.bin c * (mC Fm.nos c + 1) := Nat.mul_le_mul (Nat.pow_le_pow_right (by decide) a2) (by omega)
                rw [show mC Fm.nos c + 2 = (mC Fm.nos c + 1) + 1 from rfl, Nat.mul_add, Nat.mul_one]
                omega
            omega
          | [q, r], il, bnd =>
            have il : 2 = (putIn w f).length := il
            obtain ⟨l, hl, k⟩ := bnd 0 q rfl
            obtain ⟨l', hl', k'⟩ := bnd 1 r rfl
            obtain ⟨_, a1, _, a2, a4, _⟩ := all l hl
            obtain ⟨_, b1, _, b2, b4, _⟩ := all l' hl'
            have a2 := a2 il.symm
            have b2 := b2 il.symm
            show 1 + (cnt n q + (cnt n r + 0)) + 1 ≤ 2 ^ mC Fm.bin c * (mC Fm.nos c + 2)
            obtain ⟨m, hm⟩ : ∃ m, mC Fm.bin c = m + 1 := ⟨mC Fm.bin c - 1, by omega⟩
            have h1 : lim l ≤ 2 ^ m * (mC Fm.nos c + 2) := Nat.mul_le_mul (Nat.pow_le_pow_right (by decide) (by omega)) (by omega)
            have h2 : lim l' ≤ 2 ^ m * (mC Fm.nos c + 2) := Nat.mul_le_mul (Nat.pow_le_pow_right (by decide) (by omega)) (by omega)
            rw [hm, Nat.pow_succ, Nat.mul_assoc, Nat.mul_comm 2, ← Nat.mul_assoc]
            omega
          | x :: y :: z :: r, il, _ =>
            rw [List.length_cons, List.length_cons, List.length_cons] at il
            omega
end Lm
set_option Elab.async false
set_option linter.all false
set_option maxRecDepth 100000
set_option maxHeartbeats 400000
/-! for x in l: if bad(x): return False -/
namespace Lm
open PySem PySem.Spec PyProof.Rows L2
theorem EnvD.forget {K : PySem.W.Frag} {H : Hp} {σ : L2.St} {ρ : Rho} (h : EnvD K H σ ρ) (i : Nat) : EnvD K H σ (ρ.set i none) := by
  refine ⟨by rw [List.length_set]; exact h.1, fun j d q => ?_⟩
  by_cases c : i = j
  · subst c
    by_cases l : i < ρ.length
    · rw [List.getElem?_set_self l] at q
      cases q
    · rw [List.getElem?_eq_none (by rw [List.length_set]; omega)] at q
      cases q
  · rw [List.getElem?_set_ne c] at q
    exact h.2 j d q
theorem pus_forget {K : PySem.W.Frag} {t : TS} {ρ ρ' : Rho} (i : Nat) (h : PuS K t ρ (.nx ρ')) : PuS K t ρ (.nx (ρ'.set i none)) := fun M σ H hid en D q => h M σ H hid en D fun σ' H' e en' => q σ' H' e (en'.forget i)
theorem set_back {ρ : Rho} {j : Nat} {x : Option PyData} (h : ρ[j]? = some none) : (ρ.set j x).set j none = ρ := by
  rw [List.set_set]
  refine List.ext_getElem? fun i => ?_
  by_cases c : j = i
  · subst c
    rw [List.getElem?_set_self (List.getElem?_eq_some_iff.mp h).1, h]
  · rw [List.getElem?_set_ne c]
theorem first_bad {α : Type} {good : α → Prop} : ∀ {xs : List α}, ¬ (∀ x ∈ xs, good x) → ∃ (k : Nat) (x : α), xs[k]? = some x ∧ ¬ good x ∧ ∀ (i : Nat) (y : α), i < k → xs[i]? = some y → good y
  | [], h => absurd (fun x hx => nomatch hx) h
  | a :: xs, h => by
    by_cases c : good a
    · have h2 : ¬ ∀ x ∈ xs, good x := fun z => h fun x hx => by
        rcases List.mem_cons.mp hx with rfl | hx
        · exact c
        · exact z x hx
      obtain ⟨k, x, e, b, r⟩ := first_bad h2
      refine ⟨k + 1, x, e, b, fun i y hi hy => ?_⟩
      cases i with
      | zero => cases hy; exact c
      | succ i => exact r i y (by omega) hy
    · exact ⟨0, a, rfl, c, fun i y hi => absurd hi (by omega)⟩
section
variable {K : PySem.W.Frag} {ρ : Rho} {wi : TI} {tt : TT} {u : TS} {o : Out}
theorem pus_scan {α : Type} {xs : List α} {td : α → PyData} {j : Nat} (good : α → Prop) (hi : PuI K wi ρ (xs.map td)) (hj : ρ[j]? = some none) (ht : ∀ x ∈ xs, good x → PuT K tt (ρ.set j (some (td x))) false) (hf : ∀ x ∈ xs, ¬ good x → PuT K tt (ρ.set j (some (td x))) true)
    (k : (∀ x ∈ xs, good x) → PuS K u ρ o) (kb : (¬ ∀ x ∈ xs, good x) → o = .rt (.bool false)) : PuS K (tSeq (tFor wi (gName j) (tIfS tt (tRet (tC (.bl false))) tNext)) u) ρ o := by
  have on : ∀ x ∈ xs, good x → ∃ ρ1, PuG K (gName j) [j] ρ (td x) ρ1 ∧ (PuS K (tIfS tt (tRet (tC (.bl false))) tNext) ρ1 (.nx ρ) ∨ PuS K (tIfS tt (tRet (tC (.bl false))) tNext) ρ1 (.ct ρ)) := fun x hx g => by
    refine ⟨_, pug_name j, .inl ?_⟩
    have h := pus_forget j (pus_if (K := K) (t := tRet (tC (.bl false))) (ht x hx g) (fun z => nomatch z) fun _ => pus_next)
    rw [set_back hj] at h
    exact h
  by_cases c : ∀ x ∈ xs, good x
  · exact pus_seq (pus_for (fun _ => ρ) hi rfl fun i x hx => on x (List.mem_of_getElem? hx) (c x (List.mem_of_getElem? hx))) (k c)
  · obtain ⟨n, x, e, b, r⟩ := first_bad c
    rw [kb c]
    refine pus_early (pus_forR (k := n) (fun _ => ρ) hi rfl (List.getElem?_eq_some_iff.mp e).1 (fun i y hi hy => on y (List.mem_of_getElem? hy) (r i y hi hy)) fun y hy => ?_) fun _ z => nomatch z
    rw [e] at hy
    cases hy
    exact ⟨_, pug_name j, pus_if (hf x (List.mem_of_getElem? e) b) (fun _ => pus_ret (pu_bl false)) fun z => nomatch z⟩
/-- .. of any target and body -/
theorem pus_scanG {α : Type} {xs : List α} {td : α → PyData} {g : TG} {vs : List Nat} {tb : TS} (good : α → Prop) (hi : PuI K wi ρ (xs.map td)) (ht : ∀ x ∈ xs, good x → ∃ ρ1, PuG K g vs ρ (td x) ρ1 ∧ PuS K tb ρ1 (.nx ρ)) (hf : ∀ x ∈ xs, ¬ good x → ∃ ρ1, PuG K g vs ρ (td x) ρ1 ∧ PuS K tb ρ1 (.rt (.bool false)))
    (k : (∀ x ∈ xs, good x) → PuS K u ρ o) (kb : (¬ ∀ x ∈ xs, good x) → o = .rt (.bool false)) : PuS K (tSeq (tFor wi g tb) u) ρ o := by
  have on : ∀ x ∈ xs, good x → ∃ ρ1, PuG K g vs ρ (td x) ρ1 ∧ (PuS K tb ρ1 (.nx ρ) ∨ PuS K tb ρ1 (.ct ρ)) := fun x hx g => by
    obtain ⟨ρ1, a, b⟩ := ht x hx g
    exact ⟨ρ1, a, .inl b⟩
  by_cases c : ∀ x ∈ xs, good x
  · exact pus_seq (pus_for (fun _ => ρ) hi rfl fun i x hx => on x (List.mem_of_getElem? hx) (c x (List.mem_of_getElem? hx))) (k c)
  · obtain ⟨n, x, e, b, r⟩ := first_bad c
    rw [kb c]
    refine pus_early (pus_forR (k := n) (fun _ => ρ) hi rfl (List.getElem?_eq_some_iff.mp e).1 (fun i y hi hy => on y (List.mem_of_getElem? hy) (r i y hi hy)) fun y hy => ?_) fun _ z => nomatch z
    rw [e] at hy
    cases hy
    exact hf x (List.mem_of_getElem? e) b
end
end Lm
set_option Elab.async false
set_option linter.all false
set_option maxRecDepth 100000
set_option maxHeartbeats 400000
namespace Lm
open PySem PySem.Spec PyProof.Rows L2
section
variable {K : PySem.W.Frag} {ρ : Rho} {te : TE}
theorem pus_aug {i : Nat} {m n : Int} (hi : ρ[i]? = some (some (.int m))) (h : PuE K te ρ (.int n)) : PuS K (tAug i te (ipI fun i j => i + j)) ρ (.nx (ρ.set i (some (.int (m + n))))) := fun M σ H hid en D q => by
  obtain ⟨v, e1, dv⟩ := en.2 i _ hi
  obtain rfl := dp_intI dv
  refine ⟨_, e1, h M σ H hid en _ fun u H1 s1 du => ?_⟩
  obtain rfl := dp_intI du
  exact ⟨m, n, rfl, rfl, q _ H1 s1 ((en.same (vis_same s1)).put (.int _) i)⟩
end
def gMany (ds : List PyData) (d : PyData) : Prop := ∃ (c : Cl) (w : Wd) (f : Fm), ds = [c.toD, (Ru.fm w f).toD] ∧ LowC c ∧ f.dep ≤ 60 ∧ ((w = .left ∨ w = .right) → f.isSg = false) ∧ d = .int (manyOpen c w f : Int)
theorem any_dec (L : List Fm) (p : Fm → Bool) : (L.map p).any id = L.any p := by rw [List.any_map]; rfl
section
variable {P : Program} {w : World} {K : PySem.W.Frag} {mg : Str → Option Value} {base : Heap} {f : Addr} {fd : FuncData}
theorem scManyOpen : FnScope ["claim", "rule", "left", "right", "many", "to_left", "to_right", "f"] ["claim", "rule"] (defScope sManyOpen) := ⟨rfl, rfl, rfl, by decide +kernel, rfl, by decide +kernel, by decide +kernel⟩
theorem ok_manyOpen (D : Df K mg "_many_open" sManyOpen ["claim", "rule"] f fd) (B : Blt mg) (b_any : mg "any" = none) (h_put_in : Has P w K mg base 2 "put_in" ["rule"] (spPu K 1 gPut)) : FnOk P w K mg base CX0 3 f fd ["claim", "rule"] (spPu K 2 gMany) := by
  refine ok_pu D scManyOpen fun cdv A outer s H E hr => ?_
  have hu : (A.deeper (envOfC "_many_open" (defScope sManyOpen) s.heap.objs.size f cdv)).units + 65 < cLine := by have := hr.un; omega
  refine ⟨_, (pss_cons (ps_asg (pv 0) (pg_tup rfl (pgs_cons (pg_name (i := 2) scManyOpen.nd rfl (by first | exact Or.inl rfl | exact Or.inr rfl)) (pgs_cons (pg_name (i := 3) scManyOpen.nd rfl (by first | exact Or.inl rfl | exact Or.inr rfl)) pgs_nil))))
    (pss_cons (ps_set (i := 4) scManyOpen.nd rfl (by first | exact Or.inl rfl | exact Or.inr rfl) pe_int)
    (pss_cons (ps_for PassesOwn.never rfl (pi_list (pe_callH h_put_in (hr.mono (by omega)) (by rfl) (pa_cons (pv 1) pa_nil))) (pg_tup rfl (pgs_cons (pg_name (i := 5) scManyOpen.nd rfl (by first | exact Or.inl rfl | exact Or.inr rfl)) (pgs_cons (pg_name (i := 6) scManyOpen.nd rfl (by first | exact Or.inl rfl | exact Or.inr rfl)) pgs_nil))) (pss_one (ps_if (PW.pt (pw_and (pt_not (pt_val (pe_callB (r := rAny K) (cr_any rfl) (by rfl) b_any bt_any (pa_cons (pe_lc (own := [("f", 7)]) (g := gName 7) (tt := tYes) rfl scManyOpen.nd (pi_list (pv 5)) (blkOk_by (N := ["claim", "rule", "left", "right", "many", "to_left", "to_right", "f"]) (sc := defScope sManyOpen) (by decide +kernel)) (fun _ _ _ _ _ => (pg_name (i := 7) scManyOpen.nd rfl (by first | exact Or.inl rfl | exact Or.inr rfl))) (fun _ _ _ _ _ => pts_nil) (fun _ _ _ _ _ => (pe_cmpR (r := rInD K) (op_inD hu) (pv 7) (pv 3) (by rfl)))) pa_nil)))) (pw_and1 (pt_not (pt_val (pe_callB (r := rAny K) (cr_any rfl) (by rfl) b_any bt_any (pa_cons (pe_lc (own := [("f", 7)]) (g := gName 7) (tt := tYes) rfl scManyOpen.nd (pi_list (pv 6)) (blkOk_by (N := ["claim", "rule", "left", "right", "many", "to_left", "to_right", "f"]) (sc := defScope sManyOpen) (by decide +kernel)) (fun _ _ _ _ _ => (pg_name (i := 7) scManyOpen.nd rfl (by first | exact Or.inl rfl | exact Or.inr rfl))) (fun _ _ _ _ _ => pts_nil) (fun _ _ _ _ _ => (pe_cmpR (r := rInD K) (op_inD hu) (pv 7) (pv 2) (by rfl)))) pa_nil))))))) (pss_one (ps_aug (i := 4) scManyOpen.nd rfl (by first | exact Or.inl rfl | exact Or.inr rfl) pe_int ip_add)) pss_nil)))
    (pss_one (ps_ret (pv 4)))))), ?_⟩
  rintro ds d hl ⟨c, wd, g, rfl, lc, gd, hs, rfl⟩
  left
  refine pus_asg (ρ' := [some c.toD, some (Ru.fm wd g).toD, some (lsD c.1), some (lsD c.2), none, none, none, none]) (pu_var rfl) (pug_two 2 3) ?_
  refine pus_set (d := .int 0) (pu_int 0) ?_
  refine pus_seq (ρ' := [some c.toD, some (Ru.fm wd g).toD, some (lsD c.1), some (lsD c.2), some (.int (manyOpen c wd g : Int)), none, none, none]) ?_ (pus_ret (pu_var rfl))
  have pl := putIn_len wd g
  refine PuS.cast (pus_for (K := K) (xs := putIn wd g) (td := Cl.toD) (vs := [5, 6]) (fun i => [some c.toD, some (Ru.fm wd g).toD, some (lsD c.1), some (lsD c.2), some (.int ((((putIn wd g).take i).filter fun p => !shut c p).length : Int)), none, none, none])
    (pui_list (pu_call (pu_cons (pu_var rfl) pu_nil) rfl ⟨wd, g, rfl, hs, rfl⟩)) (by rw [List.take_zero]; rfl) (fun i p hp => ⟨_, pug_two 5 6, .inl (pus_forget 6 (ρ' := [some c.toD, some (Ru.fm wd g).toD, some (lsD c.1), some (lsD c.2), some (.int ((((putIn wd g).take (i + 1)).filter fun p => !shut c p).length : Int)), none, some (lsD p.2), none]) (pus_forget 5 (ρ' := [some c.toD, some (Ru.fm wd g).toD, some (lsD c.1), some (lsD c.2), some (.int ((((putIn wd g).take (i + 1)).filter fun p => !shut c p).length : Int)), some (lsD p.1), some (lsD p.2), none]) ?_))⟩)) (by rw [List.take_length]; rfl)
  have low := putIn_low (w := wd) (f := g) gd (List.mem_of_getElem? hp)
  have t1 := pu_tNot (pu_tB (pu_any (bs := p.1.map fun f => decide (f ∈ c.2)) ((pu_map (K := K) (te := tOp (rInD K) (tVar 7) (tVar 3)) (ρ := [some c.toD, some (Ru.fm wd g).toD, some (lsD c.1), some (lsD c.2), some (.int ((((putIn wd g).take i).filter fun p => !shut c p).length : Int)), some (lsD p.1), some (lsD p.2), none]) (j := 7) (xs := p.1) (td := Fm.toD) (pui_list (pu_var (i := 5) rfl)) (by have := low.2.2.1; omega) (fun f => .bool (decide (f ∈ c.2))) fun x hx =>
    (pu_inD (d := x.toD) (ds := c.2.map Fm.toD) (pu_var rfl) (pu_var rfl) (sh_fm low.1 hx) (sh_shaped lc.2.1)).cast (by rw [any_fm])).cast (by rw [List.map_map]; rfl))))
  have t2 := pu_tNot (pu_tB (pu_any (bs := p.2.map fun f => decide (f ∈ c.1)) ((pu_map (K := K) (te := tOp (rInD K) (tVar 7) (tVar 2)) (ρ := [some c.toD, some (Ru.fm wd g).toD, some (lsD c.1), some (lsD c.2), some (.int ((((putIn wd g).take i).filter fun p => !shut c p).length : Int)), some (lsD p.1), some (lsD p.2), none]) (j := 7) (xs := p.2) (td := Fm.toD) (pui_list (pu_var (i := 6) rfl)) (by have := low.2.2.2; omega) (fun f => .bool (decide (f ∈ c.1))) fun x hx =>
    (pu_inD (d := x.toD) (ds := c.1.map Fm.toD) (pu_var rfl) (pu_var rfl) (sh_fm low.2.1 hx) (sh_shaped lc.1)).cast (by rw [any_fm])).cast (by rw [List.map_map]; rfl))))
  have e : (((putIn wd g).take (i + 1)).filter fun p => !shut c p).length = (((putIn wd g).take i).filter fun p => !shut c p).length + (if (!shut c p) = true then 1 else 0) := by
    rw [List.take_succ, hp, Option.toList_some, List.filter_append, List.length_append]
    congr 1
    rw [List.filter_cons]
    split <;> rfl
  refine pus_if (b := !shut c p) ((pu_tAnd t1 fun _ => t2).cast ?_) (fun z => ?_) fun z => ?_
  · rw [any_dec, any_dec]
    unfold shut
    rw [Bool.not_or]
  · rw [e, if_pos z]
    exact (pus_aug (i := 4) rfl (pu_int 1)).cast (by rw [Int.natCast_add]; rfl)
  · rw [e, if_neg (by rw [z]; exact Bool.false_ne_true)]
    exact pus_next
end
end Lm
set_option Elab.async false
set_option linter.all false
set_option maxRecDepth 100000
set_option maxHeartbeats 1000000
/-! min(e, key=lambda ..) as an expression -/
namespace Lm
open PySem PySem.Spec PyProof.Rows L2 LamX NdefX
def tLamE (T : List (Addr × Str)) (mk : Addr → LF) : TE := fun _ H Q => Tabs T H ∧ ∀ (f c' : Addr) (H1 : Hp), ExtN H H1 → (∀ b, H1 b = none → H b = none) → Tabs T H1 → H f = none → H1 f = some (LamO f (mk c')) → H1 c' = some (CodeO c' (mk c').qual) → Q (.ref f) H1
theorem pe_lam {X : Cx} {T : List (Addr × Str)} {c P : Addr} {params : Arguments} {body : Expr} {scope : Scope} {pos : Pos} (TB : TabB X.base X.mg c P) (codeC : X.env.code = .ref c) (inT : (P, X.env.qual ++ "<lambda>") ∈ T) (only : ∀ p ∈ T, p.1 = P → p.2 = X.env.qual ++ "<lambda>") (noDef : defaultsOf params X.env = ([], []))
    (caught : ∀ y ∈ scope.names, y.2 = .free → X.env.scope.names.lookup y.1 = some .cell ∨ X.env.scope.names.lookup y.1 = some .free) : PE X (.Lambda params body scope pos) (tLamE T fun c' => ⟨X.env.qual ++ "<lambda>", params, body, scope, cloFrom X.env.cells scope.names [], c'⟩) :=
  ⟨fun pins s σ H Q I h => lam_made I TB codeC inT only h.1 noDef (fun y hy e => (caught y hy e).elim (fun z => I.ok.has _ (.inl z)) fun z => I.ok.has _ (.inr z)) fun f c' H1 s' I1 eN nn T1 f0 f1 c1 => ⟨.ref f, H1, I1, rfl, h.2 f c' H1 eN nn T1 f0 f1 c1⟩⟩
def tMinLam (T : List (Addr × Str)) (js : List Nat) (N : List Str) (tb te : TE) : TE := fun σ H Q => te σ H fun v H1 => ∃ (a : Addr) (xs : List V) (ks : List (Int × Int)), v = .ref a ∧ H1 a = some (.lst xs) ∧ xs ≠ [] ∧ ks.length = xs.length ∧ Tabs T H1 ∧
  (∀ (i : Nat) (x : V), xs[i]? = some x → ∀ (H' : Hp), (∀ b u, b ≠ a → H1 b = some u → (∀ ps, u ≠ .tbl ps) → H' b = some u) → ∀ Q' : VK, (∀ t H'', Same H' H'' → H'' t = some (pairH (keyAt ks i)) → Q' (.ref t) H'') → tb (startF N [x] (js.map (slotAt σ))) H' Q') ∧
  ∀ (x : V) (H' : Hp), ExtN H1 H' → (∀ b, H' b = none → H1 b = none) → Tabs T H' → xs[bestOf ks]? = some x → Q x H'
def oneP (R : V → Hp → Prop) : List V → Hp → Prop
  | [v], H => R v H
  | _, _ => False
theorem oneP_is {R : V → Hp → Prop} {vs : List V} {H : Hp} (h : oneP R vs H) : ∃ v, vs = [v] ∧ R v H := by
  match vs, h with
  | [v], h => exact ⟨v, rfl, h⟩
theorem bt_minL : bootBuiltins "min" = some (.builtin "min") := by decide +kernel
theorem pe_minLam {X : Cx} {T : List (Addr × Str)} {c P : Addr} {params : Arguments} {body : Expr} {scope : Scope} {lpos kpos pos p1 : Pos} {e : Expr} {te tb : TE} {N fr : List Str} {p : Str} {js : List Nat} {k : Nat} (hg : Gl X "min") (hm : X.mg "min" = none) (he : PE X e te) (TB : TabB X.base X.mg c P) (codeC : X.env.code = .ref c) (inT : (P, X.env.qual ++ "<lambda>") ∈ T)
    (only : ∀ p ∈ T, p.1 = P → p.2 = X.env.qual ++ "<lambda>") (noDef : defaultsOf params X.env = ([], [])) (nd : ndefB X.env.scope scope fr = true) (S : NScope N [p] fr scope) (hjs : js.map (fun j => X.N[j]?) = fr.map some)
    (hb : ∀ (q : Str) (cl : List (Str × Addr)) (pm cv ctv : Value) (us : List Value), us.length = [p].length → bindArgs (PySem.W.kla_fn "<lambda>" q params body scope cl pm cv ctv) ⟨us, []⟩ = pure ([p].zip us)) (hr : Room (k + 2) X.A)
    (hbody : ∀ (q : Str) (cl : List (Str × Addr)) (c' f : Addr) (A : Around) (s : Shared) (H : Hp), Room k (A.deeper (envF ⟨"<lambda>", q, params, [], scope, cl, c'⟩ f s.heap.objs.size)) → PE (ncx CX0 X.prog X.w X.K X.mg X.base N ⟨"<lambda>", q, params, [], scope, cl, c'⟩ f A X.stack s H E0) body tb)
    (h0 : starEach [e] X.env = (false, eval e X.env) :: starEach [] X.env := by rfl) (h1 : backTo pos (starEach [e] X.env) = (false, eval e X.env) :: backTo pos (starEach [] X.env) := by rfl) (h2 : (backTo pos (starEach [e] X.env)).any (·.1) = false := by rfl)
    (h3 : (backToKw pos (keywordEach [⟨some "key", .Lambda params body scope lpos, kpos⟩] X.env)).all (·.1.isSome) = true := by rfl) (h4 : (backToKw pos (keywordEach [⟨some "key", .Lambda params body scope lpos, kpos⟩] X.env)).any (·.1.isNone) = false := by rfl)
    (h5 : (backToKw pos (keywordEach [⟨some "key", .Lambda params body scope lpos, kpos⟩] X.env)).filterMap (·.1) = [Str.ofString "key"] := by rfl) :
    PE X (.Call (.Name "min" p1) [e] [⟨some "key", .Lambda params body scope lpos, kpos⟩] pos) (tMinLam T js N tb te) := by
  refine ⟨fun pins s σ H Q I h => ?_⟩
  refine wpAny_Call_Name_kw (ld_blt I hg hm bt_minL ?_ (by decide) (by decide))
  refine PyProof.Rows.callWith_kw (thn ((pa_cons (hs := h0) he pa_nil).run pos pins s σ H (oneP fun v H1 => ∃ (a : Addr) (xs : List V) (ks : List (Int × Int)), v = .ref a ∧ H1 a = some (.lst xs) ∧ xs ≠ [] ∧ ks.length = xs.length ∧ Tabs T H1 ∧
    (∀ (i : Nat) (x : V), xs[i]? = some x → ∀ (H' : Hp), (∀ b u, b ≠ a → H1 b = some u → (∀ ps, u ≠ .tbl ps) → H' b = some u) → ∀ Q' : VK, (∀ t H'', Same H' H'' → H'' t = some (pairH (keyAt ks i)) → Q' (.ref t) H'') → tb (startF N [x] (js.map (slotAt σ))) H' Q') ∧
    ∀ (x : V) (H' : Hp), ExtN H1 H' → (∀ b, H' b = none → H1 b = none) → Tabs T H' → xs[bestOf ks]? = some x → Q x H') I h) fun us s1 ⟨vs, H1, I1, r1, q1⟩ => ?_) h1 h2 h3 h4
  obtain ⟨v, rfl, a, xs, ks, rfl, ha, ne, hk, hT, hkey, q⟩ := oneP_is q1
  have ru := Vals.ref1 r1
  subst ru
  refine thn ((pk_cons (pe_lam TB codeC inT only noDef (ndef_free nd)) pk_nil).run pos pins s1 σ H1 (oneP fun u H2 => ∃ f c' : Addr, u = .ref f ∧ ExtN H1 H2 ∧ (∀ b, H2 b = none → H1 b = none) ∧ Tabs T H2 ∧ H2 f = some (LamO f ⟨X.env.qual ++ "<lambda>", params, body, scope, cloFrom X.env.cells scope.names [], c'⟩) ∧ H2 c' = some (CodeO c' (X.env.qual ++ "<lambda>"))) I1 ⟨hT, fun f c' H2 eN nn T2 f0 f1 c1 => ⟨f, c', rfl, eN, nn, T2, f1, c1⟩⟩) fun ws s2 ⟨zs, H2, I2, r2, q2⟩ => ?_
  obtain ⟨u, rfl, f, c', rfl, eN, nn, T2, f1, c1⟩ := oneP_is q2
  have rw2 := Vals.ref1 r2
  subst rw2
  rw [h5]
  have ha2 : H2 a = some (.lst xs) := eN _ _ ha fun _ z => nomatch z
  refine min_lam (F := ⟨X.env.qual ++ "<lambda>", params, body, scope, cloFrom X.env.cells scope.names [], c'⟩) I2 ha2 ne hk f1 c1 S (Caps.made I2.ok (ndef_free nd) (ndef_fr nd) hjs) (hb _ _ · (.ref c') ·) hr (fun A s H hr => hbody _ _ _ f A s H hr)
    (fun i x hx H' k => hkey i x hx H' fun b u n e nt => k b u n (eN _ _ e nt)) fun x H' sm hx => q x H' (fun b o e n => sm _ _ (eN _ _ e n)) (fun b z => nn b (sm.free z)) (T2.ext sm) hx
end Lm
set_option Elab.async false
set_option linter.all false
set_option maxRecDepth 100000
set_option maxHeartbeats 1000000
/-! heaps in which a table has grown -/
namespace Lm
open PySem PySem.Spec PyProof.Rows L2 LamX
section
variable {K : PySem.W.Frag} {M : Addr → Bool} {H H' : Hp} {σ : L2.St} {ρ : Rho}
theorem Ext_of (e : Same H H') : ExtN H H' := fun b o h _ => e b o h
theorem ext_vis (e : ExtN H H') : ExtN (vis M H) (vis M H') := fun b u h n => by
  unfold vis at h ⊢
  split at h
  · cases h
  · rename_i c
    rw [if_neg c]
    exact e b u h n
theorem sqL_ext {a : Addr} {xs : List V} (e : ExtN H H') (h : SqL K H a xs) : SqL K H' a xs := by
  rcases h with (h | ⟨o, h⟩) | h
  · exact .inl (.inl (e _ _ h fun _ z => nomatch z))
  · exact .inl (.inr ⟨o, e _ _ h fun _ z => nomatch z⟩)
  · exact .inr h
theorem sqT_ext {a : Addr} {xs : List V} (e : ExtN H H') (h : SqT K H a xs) : SqT K H' a xs := by
  rcases h with (h | ⟨o, h⟩) | h
  · exact .inl (.inl (e _ _ h fun _ z => nomatch z))
  · exact .inl (.inr ⟨o, e _ _ h fun _ z => nomatch z⟩)
  · exact .inr h
mutual
theorem dp_ext (e : ExtN H H') : ∀ (d : PyData) (v : V), Dp K H v d → Dp K H' v d
  | .none, _, h => by cases h; exact .non
  | .bool b, _, h => by cases h; exact .bl b
  | .int i, _, h => by cases h; exact .int i
  | .str x, _, h => by cases h; exact .str x
  | .list ds, _, h => by
    cases h with
    | lst a b => exact .lst (sqL_ext e a) (dpAll_ext e ds _ b)
  | .tuple ds, _, h => by
    cases h with
    | tup a b => exact .tup (sqT_ext e a) (dpAll_ext e ds _ b)
  | .dict _, _, h => by cases h
theorem dpAll_ext (e : ExtN H H') : ∀ (ds : List PyData) (vs : List V), DpAll K H vs ds → DpAll K H' vs ds
  | [], _, h => by cases h; exact .nil
  | d :: ds, _, h => by
    cases h with
    | cons a b => exact .cons (dp_ext e d _ a) (dpAll_ext e ds _ b)
end
theorem EnvD.ext (h : EnvD K H σ ρ) (e : ExtN H H') : EnvD K H' σ ρ := ⟨h.1, fun i d q => (h.2 i d q).imp fun v p => ⟨p.1, dp_ext e _ _ p.2⟩⟩
theorem Hid.ext (h : Hid M H) (e : ExtN H H') : Hid M H' := fun p c => by
  rcases h p c with ⟨x, q⟩ | ⟨x, q⟩
  · exact .inl ⟨x, e _ _ q fun _ z => nomatch z⟩
  · exact .inr ⟨x, e _ _ q fun _ z => nomatch z⟩
/-- nothing but the tables changed, what was told of them holds still -/
structure Grew (T : List (Addr × Str)) (H H' : Hp) : Prop where
  ext : ExtN H H'
  nn : ∀ b, H' b = none → H b = none
  tabs : Tabs T H'
theorem Grew.of {T : List (Addr × Str)} (t : Tabs T H) (e : Same H H') : Grew T H H' := ⟨Ext_of e, fun b z => e.free z, t.ext e⟩
theorem Grew.trans {T : List (Addr × Str)} {H1 H2 : Hp} (a : Grew T H H1) (b : Grew T H1 H2) : Grew T H H2 := ⟨a.ext.trans b.ext, fun c z => a.nn c (b.nn c z), b.tabs⟩
theorem Grew.same {T : List (Addr × Str)} {H1 H2 : Hp} (a : Grew T H H1) (e : Same H1 H2) : Grew T H H2 := a.trans (.of a.tabs e)
/-- .. and what is new since is written -/
theorem Grew.upd {T : List (Addr × Str)} {H1 : Hp} (a : Grew T H H1) {p : Addr} {xs : List V} {o : HO} (h : H1 p = some (.lst xs)) (n : H p = none) : Grew T H (L2.upd H1 p o) := by
  refine ⟨fun b u e k => (upd_ne (ne_of_none e n)).trans (a.ext b u e k), fun b z => ?_, fun q hq => ?_⟩
  · refine a.nn b ?_
    unfold L2.upd at z
    split at z
    · cases z
    · exact z
  · obtain ⟨ps, h1, h2, h3⟩ := a.tabs q hq
    refine ⟨ps, (upd_ne (ne_of h1 h (fun z => nomatch z))).trans h1, h2, fun pos cv hc => ?_⟩
    obtain ⟨c, e1, e2⟩ := h3 pos cv hc
    exact ⟨c, e1, (upd_ne (ne_of e2 h (fun z => nomatch z))).trans e2⟩
end
end Lm
set_option Elab.async false
set_option linter.all false
set_option maxRecDepth 100000
set_option maxHeartbeats 1000000
namespace Lm
open PySem PySem.Spec PyProof.Rows L2 LamX NdefX
abbrev nextQ : Str := Str.ofString "_next_rule" ++ Str.ofString ".<locals>." ++ "<lambda>"
abbrev nextT (P0 : Addr) : List (Addr × Str) := [(P0, nextQ)]
def ruOD : Option (Wd × Fm) → PyData
  | none => .none
  | some r => (Ru.fm r.1 r.2).toD
def spNext (K : PySem.W.Frag) (P0 : Addr) : Sp := fun vs H Q _ => ∃ (M : Addr → Bool) (v : V) (c : Cl), vs = [v] ∧ Hid M H ∧ Dp K (vis M H) v c.toD ∧ GdC c ∧ c.1.length ≤ 900 ∧ c.2.length ≤ 900 ∧ Tabs (nextT P0) H ∧
  ∀ v' H', Grew (nextT P0) H H' → Dp K (vis M H') v' (ruOD (nextRule c)) → Q v' H'
theorem fn_ofC {P : Program} {w : World} {K : PySem.W.Frag} {mg : Str → Option Value} {base : Heap} {k : Nat} {f : Addr} {name qual : Str} {params : Arguments} {body : List Stmt} {scope : Scope} {dV kV doc pm cdv ct oc : Value} {an od : Option Addr} {osl : Array (Option Value)} {N ps : List Str} {sp : Sp}
    (lk : K.lookup f = some ⟨oc, od, .func (PySem.W.fnOf name qual params body scope dV kV doc pm an cdv ct), osl⟩) (hcd : PySem.W.codeIn K cdv qual = true) (S : FnScope N ps scope) (len : ∀ vs H Q E, sp vs H Q E → vs.length = ps.length)
    (bd : ∀ (A : Around) (outer : List Env) (s : Shared) (H : Hp) (vs : List V) (Q : VK) (E : XK), Room k (A.deeper (envOfC qual scope s.heap.objs.size f cdv)) → sp vs H Q E →
      ∃ t, PSs (cxOf CX0 P w K mg base N qual scope f cdv A outer s H E).nox body t ∧ t { nx := fun _ H' => Q .non H', rt := Q } (L2.start N vs) H) : FnOk P w K mg base CX0 (k + 1) f (PySem.W.fnOf name qual params body scope dV kV doc pm an cdv ct) ps sp :=
  fn_of lk hcd S len fun A outer s H vs Q E hr h => (bd A outer s H vs Q E hr h).imp fun t z => ⟨z.1.nox, z.2⟩
theorem pu_negO {K : PySem.W.Frag} {ρ : Rho} {te : TE} {i : Int} (h : PuE K te ρ (.int i)) : PuE K (tUn (rU fun i => .int (-i)) te) ρ (.int (-i)) := fun M σ H hid en Q q => h M σ H hid en _ fun v H1 e1 hv => ⟨i, dp_intI hv, q _ H1 e1 (.int _)⟩
section
variable {P : Program} {w : World} {K : PySem.W.Frag} {mg : Str → Option Value} {base : Heap} {f : Addr} {fd : FuncData}
theorem scNextRule : FnScope ["claim", "left", "right", "f", "rules"] ["claim"] (defScope sNextRule) := ⟨rfl, rfl, rfl, by decide +kernel, rfl, by decide +kernel, by decide +kernel⟩
theorem ok_nextRule {cc P0 : Addr} {oc kV doc pm ct : Value} {od an : Option Addr} {osl : Array (Option Value)} (lk : K.lookup f = some ⟨oc, od, .func (PySem.W.fnOf "_next_rule" "_next_rule" (defArgs sNextRule) (defBody sNextRule) (defScope sNextRule) .none kV doc pm an (.ref cc) ct), osl⟩) (hcd : PySem.W.codeIn K (.ref cc) "_next_rule" = true)
    (TB : TabB base mg cc P0) (b_min : mg "min" = none) (h_many_open : Has P w K mg base 3 "_many_open" ["claim", "rule"] (spPu K 2 gMany)) (h_words : Has P w K mg base 14 "words" ["f"] (spWords K 13)) :
    FnOk P w K mg base CX0 17 f (PySem.W.fnOf "_next_rule" "_next_rule" (defArgs sNextRule) (defBody sNextRule) (defScope sNextRule) .none kV doc pm an (.ref cc) ct) ["claim"] (spNext K P0) := by
  refine fn_ofC lk hcd scNextRule (fun vs H Q E h => ?_) (fun A outer s H vs Q E hr h => ?_)
  · obtain ⟨M, v, c, rfl, _⟩ := h
    rfl
  obtain ⟨M, v, c, rfl, hid, hv, gc, l1, l2, hT, q⟩ := h
  have hu : (A.deeper (envOfC "_next_rule" (defScope sNextRule) s.heap.objs.size f (.ref cc))).units + 65 < cLine := by have := hr.un; omega
  refine ⟨_, (pss_cons (ps_asg (pv 0) (pg_tup rfl (pgs_cons (pg_name (i := 1) scNextRule.nd rfl (by first | exact Or.inl rfl | exact Or.inr rfl)) (pgs_cons (pg_name (i := 2) scNextRule.nd rfl (by first | exact Or.inl rfl | exact Or.inr rfl)) pgs_nil))))
    (pss_cons (ps_for PassesOwn.never rfl (pi_list (pv 1)) (pg_name (i := 3) scNextRule.nd rfl (by first | exact Or.inl rfl | exact Or.inr rfl)) (pss_one (ps_if (pt_cmpR (r := rInD K) (op_inD hu) (pv 3) (pv 2) (by rfl)) (pss_one (ps_ret (pe_tup (pa_cons pe_str (pa_cons (pv 3) pa_nil))))) pss_nil)))
    (pss_cons (ps_setLc (i := 4) (own := [("f", 3)]) (g := gName 3) rfl scNextRule.nd rfl rfl (sw_true rfl rfl rfl (by decide +kernel)) (pi_list (pv 1)) (blkOk_by (N := ["claim", "left", "right", "f", "rules"]) (sc := defScope sNextRule) (by decide +kernel)) (fun _ _ _ _ _ => (pg_name (i := 3) scNextRule.nd rfl (by first | exact Or.inl rfl | exact Or.inr rfl))) (fun _ _ _ _ _ => (pts_one (pt_cmpR op_ne (pe_ix (r := rIxT K) ix_tup (pv 3) pe_int (fun _ _ => rfl)) pe_str (nomark _)))) (fun _ _ _ _ _ => (pe_tup (pa_cons pe_str (pa_cons (pv 3) pa_nil)))))
    (pss_cons (ps_set (i := 4) scNextRule.nd rfl (by first | exact Or.inl rfl | exact Or.inr rfl) (pe_op (r := rCatL K) op_catL (pv 4) (pe_lc (own := [("f", 3)]) (g := gName 3) rfl scNextRule.nd (pi_list (pv 2)) (blkOk_by (N := ["claim", "left", "right", "f", "rules"]) (sc := defScope sNextRule) (by decide +kernel)) (fun _ _ _ _ _ => (pg_name (i := 3) scNextRule.nd rfl (by first | exact Or.inl rfl | exact Or.inr rfl))) (fun _ _ _ _ _ => (pts_one (pt_cmpR op_ne (pe_ix (r := rIxT K) ix_tup (pv 3) pe_int (fun _ _ => rfl)) pe_str (nomark _)))) (fun _ _ _ _ _ => (pe_tup (pa_cons pe_str (pa_cons (pv 3) pa_nil)))))))
    (pss_cons (ps_if (pt_not (pt_truth (pv 4) (fun _ => rfl))) (pss_one (ps_ret pe_non)) pss_nil)
    (pss_one (ps_ret (pe_minLam (T := nextT P0) (N := ["rule", "claim"]) (fr := ["claim"]) (p := "rule") (js := [0]) (k := 14) (by rfl) b_min (pv 4) TB rfl (List.mem_singleton.mpr rfl) (fun p hp _ => by rw [List.mem_singleton.mp hp]; rfl) rfl (show ndefB (defScope sNextRule) _ _ = true from by decide +kernel) (nscope_by (by decide +kernel)) rfl (fun q cl pm cv ctv us hl => match us, hl with | [u], _ => rfl) hr (fun q cl c' f' A' s' H' hr' => (pe_tup (pa_cons (pe_callH h_many_open (hr'.mono (by decide)) (by rfl) (pa_cons (pv 1) (pa_cons (pv 0) pa_nil))) (pa_cons (pe_un un_neg (pe_callH h_words hr' (by rfl) (pa_cons (pe_ix (r := rIxT K) ix_tup (pv 0) pe_int (fun _ _ => rfl)) pa_nil))) pa_nil)))))))))))), ?_⟩
  have en := envD_start (N := ["claim", "left", "right", "f", "rules"]) (DpAll.cons hv .nil)
  have sh1 := gc.1.sh
  have sh2 := gc.2.sh
  dsimp only [tSeq]
  refine pus_asg1 (ρ' := [some c.toD, some (lsD c.1), some (lsD c.2), none, none]) (pu_var (i := 0) (d := .tuple [lsD c.1, lsD c.2]) rfl) (pug_two 1 2) M _ H hid en _ fun σ1 H1 e1 en1 => ?_
  have hid1 := hid.same e1
  have body : ∀ (x : Fm), x ∈ c.1 → PuT K (tTest (tOp (rInD K) (tVar 3) (tVar 2))) [some c.toD, some (lsD c.1), some (lsD c.2), some x.toD, none] (decide (x ∈ c.2)) := fun x hx =>
    pu_tTest ((pu_inD (d := x.toD) (ds := c.2.map Fm.toD) (pu_var rfl) (pu_var rfl) (sh_fm sh1 hx) (sh_shaped sh2)).cast (by rw [any_fm]))
  cases hfind : c.1.find? fun f => decide (f ∈ c.2) with
  | some g =>
    have m := List.mem_of_find?_eq_some hfind
    have g2 : g ∈ c.2 := by have := List.find?_some (p := fun f => decide (f ∈ c.2)) hfind; simpa using this
    obtain ⟨k, hk, before⟩ : ∃ k, c.1[k]? = some g ∧ ∀ i y, i < k → c.1[i]? = some y → y ∉ c.2 := by
      obtain ⟨_, as, bs, e, h0⟩ := List.find?_eq_some_iff_append.mp hfind
      refine ⟨as.length, by rw [e, List.getElem?_append_right (Nat.le_refl _), Nat.sub_self]; rfl, fun i y hi hy => ?_⟩
      rw [e, List.getElem?_append_left hi] at hy
      have := h0 y (List.mem_of_getElem? hy)
      simpa using this
    have en2 : nextRule c = some (.same, g) := by unfold nextRule; rw [hfind]
    rw [en2] at q
    refine pus_forR (K := K) (xs := c.1) (td := Fm.toD) (k := k) (ρ := [some c.toD, some (lsD c.1), some (lsD c.2), none, none]) (d := (Ru.fm .same g).toD) (fun _ => [some c.toD, some (lsD c.1), some (lsD c.2), none, none]) (vs := [3]) (pui_list (pu_var rfl)) rfl (List.getElem?_eq_some_iff.mp hk).1 (fun i x hi hx => ⟨_, pug_name 3, .inl (pus_forget 3 (ρ' := [some c.toD, some (lsD c.1), some (lsD c.2), some x.toD, none]) (pus_if (b := false) ((body x (List.mem_of_getElem? hx)).cast (decide_eq_false (before i x hi hx))) (fun z => nomatch z) fun _ => pus_next))⟩)
      (fun x hx => ⟨_, pug_name 3, ?_⟩) M σ1 H1 hid1 en1 _ fun v' H2 e2 dv => q v' H2 (.of hT (e1.trans e2)) dv
    rw [hk] at hx
    cases hx
    exact pus_if (b := true) ((body g m).cast (decide_eq_true g2)) (fun _ => pus_ret (pu_tup (pu_cons (pu_str _) (pu_cons (pu_var rfl) pu_nil)) (by simp))) fun z => nomatch z
  | none =>
    have none_in : ∀ x ∈ c.1, x ∉ c.2 := fun x hx => by have := List.find?_eq_none.mp hfind x hx; simpa using this
    have en2 : nextRule c = (rulesOf c)[bestOf (keysOf c)]? := by unfold nextRule; rw [hfind]
    refine pus_for (K := K) (xs := c.1) (td := Fm.toD) (ρ := [some c.toD, some (lsD c.1), some (lsD c.2), none, none]) (fun _ => [some c.toD, some (lsD c.1), some (lsD c.2), none, none]) (vs := [3]) (pui_list (pu_var rfl)) rfl (fun i x hx => ⟨_, pug_name 3, .inl (pus_forget 3 (ρ' := [some c.toD, some (lsD c.1), some (lsD c.2), some x.toD, none]) (pus_if (b := false) ((body x (List.mem_of_getElem? hx)).cast (decide_eq_false (none_in x (List.mem_of_getElem? hx)))) (fun z => nomatch z) fun _ => pus_next))⟩) M σ1 H1 hid1 en1 _ fun σ2 H2 e2 en2' => ?_
    have hid2 := hid1.same e2
    have sgT : ∀ (x : Fm), PuT K (tTest (tOp rNe (tOp (rIxT K) (tVar 3) (tC (.int 0))) (tC (.str ("sign" : Str))))) [some c.toD, some (lsD c.1), some (lsD c.2), some x.toD, none] (!x.isSg) := fun x => by
      cases x with
      | sg i => exact (pu_tTest (pu_neS (i := ("sign" : Str)) (pu_ixT (ds := [.str ("sign" : Str), .int i]) (i := 0) (pu_var rfl) (pu_int 0) (tix0 _ _ _)) (pu_str _))).cast (by rw [decide_eq_true rfl]; rfl)
      | no g => exact (pu_tTest (pu_neS (i := ("not" : Str)) (pu_ixT (ds := [.str ("not" : Str), g.toD]) (i := 0) (pu_var rfl) (pu_int 0) (tix0 _ _ _)) (pu_str _))).cast (by rw [decide_eq_false (by decide +kernel)]; rfl)
      | bi b g k => exact (pu_tTest (pu_neS (i := b.txt) (pu_ixT (ds := [.str b.txt, g.toD, k.toD]) (i := 0) (pu_var rfl) (pu_int 0) (tix0 _ _ _)) (pu_str _))).cast (by rw [decide_eq_false (txt_sign b)]; rfl)
    refine pus_set1 (i := 4) (d := .list ((c.1.filter fun f => !f.isSg).map fun x => (Ru.fm .left x).toD)) (pu_fil (j := 3) (te := tTup (tCons (tC (.str ("left" : Str))) (tCons (tVar 3) tNil))) (ρ := [some c.toD, some (lsD c.1), some (lsD c.2), none, none]) (xs := c.1) (td := Fm.toD) (pui_list (pu_var (i := 1) rfl)) (by omega) (fun f => !f.isSg) (fun x => (Ru.fm .left x).toD) fun x hx => ⟨sgT x, fun _ => pu_tup (pu_cons (pu_str _) (pu_cons (pu_var (i := 3) rfl) pu_nil)) (by simp)⟩) M σ2 H2 hid2 en2' _ fun σ3 H3 e3 en3 => ?_
    have hid3 := hid2.same e3
    have en3 : EnvD K (vis M H3) σ3 [some c.toD, some (lsD c.1), some (lsD c.2), none, some (.list ((c.1.filter fun f : Fm => !f.isSg).map fun x => (Ru.fm .left x).toD))] := en3
    obtain ⟨v4, a4, d4⟩ := en3.2 4 _ rfl
    refine ⟨v4, a4, ?_⟩
    refine pu_fil (K := K) (j := 3) (te := tTup (tCons (tC (.str ("right" : Str))) (tCons (tVar 3) tNil))) (ρ := [some c.toD, some (lsD c.1), some (lsD c.2), none, some (.list ((c.1.filter fun f : Fm => !f.isSg).map fun x => (Ru.fm .left x).toD))]) (xs := c.2) (td := Fm.toD) (pui_list (pu_var rfl)) (by omega) (fun f => !f.isSg) (fun x => (Ru.fm .right x).toD) (fun x hx => ⟨?_, fun _ => pu_tup (pu_cons (pu_str _) (pu_cons (pu_var rfl) pu_nil)) (by simp)⟩) M σ3 H3 hid3 en3 _ fun u H4 e4 du => ?_
    · cases x with
      | sg i => exact (pu_tTest (pu_neS (i := ("sign" : Str)) (pu_ixT (ds := [.str ("sign" : Str), .int i]) (i := 0) (pu_var rfl) (pu_int 0) (tix0 _ _ _)) (pu_str _))).cast (by rw [decide_eq_true rfl]; rfl)
      | no g => exact (pu_tTest (pu_neS (i := ("not" : Str)) (pu_ixT (ds := [.str ("not" : Str), g.toD]) (i := 0) (pu_var rfl) (pu_int 0) (tix0 _ _ _)) (pu_str _))).cast (by rw [decide_eq_false (by decide +kernel)]; rfl)
      | bi b g k => exact (pu_tTest (pu_neS (i := b.txt) (pu_ixT (ds := [.str b.txt, g.toD, k.toD]) (i := 0) (pu_var rfl) (pu_int 0) (tix0 _ _ _)) (pu_str _))).cast (by rw [decide_eq_false (txt_sign b)]; rfl)
    obtain ⟨a, xs, rfl, hs, ha⟩ := dp_lstI (dp_same (vis_same e4) _ _ d4)
    obtain ⟨b, ys, rfl, ks, kb⟩ := dp_lstI du
    have lx : xs.length ≤ 900 := by
      have := dpAll_len ha
      rw [List.length_map] at this
      have := List.length_filter_le (fun f : Fm => !f.isSg) c.1
      omega
    have ly : ys.length ≤ 900 := by
      have := dpAll_len kb
      rw [List.length_map] at this
      have := List.length_filter_le (fun f : Fm => !f.isSg) c.2
      omega
    refine ⟨a, b, xs, ys, rfl, rfl, vis_sub.seq hs, vis_sub.seq ks, sl1000 (by omega), fun p np => ?_⟩
    have dall : DpAll K (vis M H4) (xs ++ ys) ((rulesOf c).map fun r => (Ru.fm r.1 r.2).toD) := by
      have := dpAll_app ha kb
      have e0 : ((rulesOf c).map fun r => (Ru.fm r.1 r.2).toD) = ((c.1.filter fun f => !f.isSg).map fun x => (Ru.fm .left x).toD) ++ (c.2.filter fun f => !f.isSg).map fun x => (Ru.fm .right x).toD := by
        unfold rulesOf
        rw [List.map_append, List.map_map, List.map_map]
        rfl
      rw [e0]
      exact this
    generalize xs ++ ys = zs at dall
    have lz : zs.length = (rulesOf c).length := by have := dpAll_len dall; rwa [List.length_map] at this
    have len3 : σ3.length = 5 := en3.1
    have at4 : (σ3.set 4 (some (.ref p)))[4]? = some (some (.ref p)) := List.getElem?_set_self (by omega)
    have hp : upd H4 p (.lst zs) p = some (.lst zs) := upd_same
    have hid4 := hid3.same e4
    have s4 : Same H (upd H4 p (.lst zs)) := e1.trans (e2.trans (e3.trans (e4.trans (same_new np _))))
    refine ⟨.ref p, at4, !zs.isEmpty, .inl ⟨zs, SqL.of hp, rfl⟩, ?_⟩
    by_cases z : rulesOf c = []
    · have z0 : zs = [] := List.length_eq_zero_iff.mp (by rw [lz, z]; rfl)
      subst z0
      refine iteT ?_
      have e5 : nextRule c = none := by rw [en2, z]; rfl
      rw [e5] at q
      exact q .non _ (.of hT s4) .non
    · have z0 : zs ≠ [] := fun y => z (List.length_eq_zero_iff.mp (by rw [← lz, y]; rfl))
      have zf : (!zs.isEmpty) = true := by
        cases zs with
        | nil => exact absurd rfl z0
        | cons x y => rfl
      rw [zf]
      refine iteF ?_
      obtain ⟨v0, a0, d0⟩ := en3.2 0 c.toD rfl
      have k4 : (keysOf c).length = zs.length := by unfold keysOf; rw [List.length_map, lz]
      refine ⟨.ref p, at4, p, zs, keysOf c, rfl, hp, z0, k4, hT.ext s4, fun i x hx H' kp Q' hq => ?_, fun x H' eN nn T' hx => ?_⟩
      · have kp4 : ExtN H4 H' := fun b' u e n => kp b' u (fun y => by rw [y, np] at e; cases e) ((upd_ne (fun y => by rw [y, np] at e; cases e)).trans e) n
        have ir : i < (rulesOf c).length := by have := (List.getElem?_eq_some_iff.mp hx).1; omega
        obtain ⟨dx, e5, hdx⟩ := dpAll_get dall hx
        rw [List.getElem?_map, List.getElem?_eq_getElem ir] at e5
        obtain ⟨hw, hft⟩ := rules_fit (List.getElem_mem ir)
        generalize hr : (rulesOf c)[i] = r at e5 hw hft
        have e5 : (Ru.fm r.1 r.2).toD = dx := Option.some.inj e5
        subst e5
        obtain ⟨gf, df, _⟩ := fit_good gc (.inr hw) hft
        have nsg : r.2.isSg = false := by
          rcases hw with y | y
          · rw [y] at hft
            have hft : (decide (r.2 ∈ c.1) && !r.2.isSg) = true := hft
            rw [Bool.and_eq_true] at hft
            simpa using hft.2
          · rw [y] at hft
            have hft : (decide (r.2 ∈ c.2) && !r.2.isSg) = true := hft
            rw [Bool.and_eq_true] at hft
            simpa using hft.2
        have hsl : slotAt (σ3.set 4 (some (.ref p))) 0 = some v0 := slotAt_of (by rw [List.getElem?_set_ne (by decide)]; exact a0)
        have en6 : EnvD K (vis M H') (startF ["rule", "claim"] [x] ([0].map (slotAt (σ3.set 4 (some (.ref p)))))) [some (Ru.fm r.1 r.2).toD, some c.toD] := by
          show EnvD K (vis M H') [some x, slotAt (σ3.set 4 (some (.ref p))) 0] _
          rw [hsl]
          exact .cons (dp_ext (ext_vis kp4) _ _ hdx) (.cons (dp_ext (ext_vis kp4) _ _ (dp_same (vis_same e4) _ _ d0)) .nil)
        have keyE : keyAt (keysOf c) i = [(manyOpen c r.1 r.2 : Int), -(r.2.size : Int)] := by
          unfold keyAt keysOf
          rw [List.getD_eq_getElem?_getD, List.getElem?_map, List.getElem?_eq_getElem ir, hr]
          rfl
        refine (pu_cons (K := K) (ρ := [some (Ru.fm r.1 r.2).toD, some c.toD]) (d := .int (manyOpen c r.1 r.2 : Int)) (pu_call (pu_cons (pu_var rfl) (pu_cons (pu_var rfl) pu_nil)) rfl ⟨c, r.1, r.2, rfl, ⟨sh1, sh2, by omega, by omega⟩, by omega, fun _ => nsg, rfl⟩) (pu_cons (d := .int (-(r.2.size : Int))) (pu_negO (pu_words (pu_ixT (ds := [.str r.1.txt, r.2.toD]) (i := 1) (pu_var rfl) (pu_int 1) (tix1 _ _ _)) (by omega))) pu_nil)) M _ H' (hid4.ext kp4) en6 _ fun vs H5 e6 dv => ?_
        have ev := dpAll_nums (ns := [(manyOpen c r.1 r.2 : Int), -(r.2.size : Int)]) dv
        subst ev
        refine ⟨sl1000 (by show 2 ≤ 100000; decide), fun t nt => hq t _ (e6.trans (same_new nt _)) ?_⟩
        rw [keyE]
        exact upd_same
      · rw [en2] at q
        have bl : bestOf (keysOf c) < (rulesOf c).length := by have := (List.getElem?_eq_some_iff.mp hx).1; omega
        obtain ⟨dx, e5, hdx⟩ := dpAll_get dall hx
        rw [List.getElem?_map, List.getElem?_eq_getElem bl] at e5
        have e5 : (Ru.fm (rulesOf c)[bestOf (keysOf c)].1 (rulesOf c)[bestOf (keysOf c)].2).toD = dx := Option.some.inj e5
        have eN4 : ExtN H4 H' := fun b' u e n => eN b' u ((upd_ne (fun y => by rw [y, np] at e; cases e)).trans e) n
        refine q x H' ⟨fun b' u e n => eN b' u (s4 _ _ e) n, fun b' z => s4.free (nn b' z), T'⟩ ?_
        rw [List.getElem?_eq_getElem bl]
        show Dp K (vis M H') x (Ru.fm _ _).toD
        rw [e5]
        exact dp_ext (ext_vis eN4) _ _ hdx
end
end Lm
set_option Elab.async false
set_option linter.all false
set_option maxRecDepth 100000
set_option maxHeartbeats 1000000
/-! proofs as objects -/
namespace Lm
open PySem PySem.Spec PyProof.Rows L2 LamX
theorem n_ri : ¬ (("rule" : Str) = "inner") := by decide +kernel
theorem n_rc : ¬ (("rule" : Str) = "claim") := by decide +kernel
theorem n_ic : ¬ (("inner" : Str) = "claim") := by decide +kernel
/-- the attributes, as they are stored -/
def prF (r i c : V) : List (Str × V) := putF "claim" c (putF "inner" i (putF "rule" r []))
theorem prF_claim (r i c : V) : (prF r i c).lookup ("claim" : Str) = some c := by unfold prF; rw [lookup_putF, if_pos rfl]
theorem prF_inner (r i c : V) : (prF r i c).lookup ("inner" : Str) = some i := by unfold prF; rw [lookup_putF, if_neg n_ic, lookup_putF, if_pos rfl]
theorem prF_rule (r i c : V) : (prF r i c).lookup ("rule" : Str) = some r := by unfold prF; rw [lookup_putF, if_neg n_rc, lookup_putF, if_neg n_ri, lookup_putF, if_pos rfl]
structure PCls (K : PySem.W.Frag) (C : Addr) : Prop where
  cl : Cls K C
  nr : NoAttr K C "rule"
  ni : NoAttr K C "inner"
  nc : NoAttr K C "claim"
/-- the object v is the proof p -/
def PrV (K : PySem.W.Frag) (C : Addr) (H : Hp) : Nat → V → Pr → Prop
  | 0, _, _ => False
  | n + 1, v, p => ∃ (a dx l : Addr) (vr vc : V) (ws : List V), v = .ref a ∧ H a = some (.ins C dx (prF vr (.ref l) vc)) ∧ H l = some (.lst ws) ∧ Dp K H vr (Ru.fm p.w p.f).toD ∧ Dp K H vc p.c.toD ∧ ws.length = p.inner.length ∧
    ∀ (i : Nat) (u : V) (q : Pr), ws[i]? = some u → p.inner[i]? = some q → PrV K C H n u q
def PrVs (K : PySem.W.Frag) (C : Addr) (H : Hp) (n : Nat) (ws : List V) (ps : List Pr) : Prop := ws.length = ps.length ∧ ∀ (i : Nat) (u : V) (q : Pr), ws[i]? = some u → ps[i]? = some q → PrV K C H n u q
theorem prV_ext {K : PySem.W.Frag} {C : Addr} {H H' : Hp} (e : ExtN H H') : ∀ {n : Nat} {v : V} {p : Pr}, PrV K C H n v p → PrV K C H' n v p
  | n + 1, v, p, ⟨a, dx, l, vr, vc, ws, h1, h2, h3, h4, h5, h6, h7⟩ => ⟨a, dx, l, vr, vc, ws, h1, e _ _ h2 (fun _ z => nomatch z), e _ _ h3 (fun _ z => nomatch z), dp_ext e _ _ h4, dp_ext e _ _ h5, h6, fun i u q x y => prV_ext e (h7 i u q x y)⟩
theorem prV_up {K : PySem.W.Frag} {C : Addr} {H : Hp} : ∀ {n : Nat} {v : V} {p : Pr}, PrV K C H n v p → PrV K C H (n + 1) v p
  | n + 1, v, p, ⟨a, dx, l, vr, vc, ws, h1, h2, h3, h4, h5, h6, h7⟩ => ⟨a, dx, l, vr, vc, ws, h1, h2, h3, h4, h5, h6, fun i u q x y => prV_up (h7 i u q x y)⟩
theorem prVs_ext {K : PySem.W.Frag} {C : Addr} {H H' : Hp} (e : ExtN H H') {n : Nat} {ws : List V} {ps : List Pr} (h : PrVs K C H n ws ps) : PrVs K C H' n ws ps := ⟨h.1, fun i u q x y => prV_ext e (h.2 i u q x y)⟩
theorem prVs_snoc {K : PySem.W.Frag} {C : Addr} {H : Hp} {n : Nat} {ws : List V} {ps : List Pr} {u : V} {q : Pr} (h : PrVs K C H n ws ps) (k : PrV K C H n u q) : PrVs K C H n (ws ++ [u]) (ps ++ [q]) := by
  refine ⟨by rw [List.length_append, List.length_append, h.1]; rfl, fun i v p hv hp => ?_⟩
  have l := h.1
  by_cases z : i < ws.length
  · rw [List.getElem?_append_left z] at hv
    rw [List.getElem?_append_left (by omega)] at hp
    exact h.2 i v p hv hp
  · have il : i < (ws ++ [u]).length := (List.getElem?_eq_some_iff.mp hv).1
    rw [List.length_append, List.length_singleton] at il
    have : i = ws.length := by omega
    subst this
    rw [List.getElem?_append_right (Nat.le_refl _), Nat.sub_self] at hv
    rw [List.getElem?_append_right (by omega), l, Nat.sub_self] at hp
    cases hv
    cases hp
    exact k
theorem same_ext_vis {M : Addr → Bool} {H H' : Hp} (e : Same H H') : ExtN (vis M H) H' := fun b u h _ => e _ _ (vis_sub _ _ h)
section
variable {K : PySem.W.Frag}
/-- [x for x in side if test], told as a list of one's own -/
theorem lc_own {M : Addr → Bool} {σ : L2.St} {H : Hp} {ρ : Rho} {te : TE} {tt : TT} {j : Nat} {L : List Fm} {p : Fm → Bool} (hid : Hid M H) (en : EnvD K (vis M H) σ ρ) (h : PuE K te ρ (lsD L)) (hl : L.length ≤ 90000) (hj : j < ρ.length)
    (ht : ∀ x ∈ L, ∀ (M' : Addr → Bool) σ' H', Hid M' H' → Same (vis M H) (vis M' H') → Same H H' → EnvD K (vis M' H') σ' (ρ.set j (some x.toD)) → (∀ i, i ≠ j → σ'[i]? = σ[i]?) → ∀ Q : Bool → Hp → Prop, (∀ H'', Same H' H'' → Q (p x) H'') → tt σ' H' Q) {Q : VK}
    (q : ∀ D H' acc, Same H H' → H D = none → H' D = some (.lst acc) → DpAll K (vis (fun b => M b || b == D) H') acc ((L.filter p).map Fm.toD) → Q (.ref D) H') : tLc (iList K te) (gName j) tt (tVar j) [j] σ H Q := by
  refine h M σ H hid en _ fun v H1 e1 hv => ?_
  obtain ⟨a, xs, rfl, hs, ha⟩ := dp_lstI hv
  have hs1 := vis_sub.seq hs
  have lx : xs.length = L.length := by have := dpAll_len ha; rwa [List.length_map] at this
  refine ⟨a, rfl, ⟨xs, hs1⟩, fun D nD => ?_⟩
  have hid1 := hid.same e1
  have nM : M D = false := hid1.non nD
  have nD0 : H D = none := by
    cases z : H D with
    | none => rfl
    | some u => rw [e1 _ _ z] at nD; cases nD
  generalize hM' : (fun b => M b || b == D) = M'
  have mD : M' D = true := by rw [← hM']; simp
  refine ⟨fun i m Hn => m = xs.length - i ∧ i ≤ xs.length ∧ Same H1 Hn ∧ ∃ acc, Hn D = some (.lst acc) ∧ acc.length ≤ i ∧ DpAll K (vis M' Hn) acc (((L.take i).filter p).map Fm.toD), ⟨_, rfl, Nat.zero_le _, same_new nD _, [], upd_same, Nat.le_refl _, by rw [List.take_zero]; exact .nil⟩, ?_⟩
  rintro i m Hn ⟨rfl, ile, s, acc, hD, al, dacc⟩
  have sv : Same (vis M H1) (vis M' Hn) := by rw [← hM']; exact same_vis_or nD s
  have hidn : Hid M' Hn := by rw [← hM']; exact hid_or (hid1.same s) hD
  by_cases c : i < xs.length
  · have hx : L[i]? = some (L[i]'(by omega)) := List.getElem?_eq_getElem (by omega)
    refine .inr ⟨⟨xs, xs[i], s.seq hs1, List.getElem?_eq_getElem c⟩, fun H' => Same H1 H' ∧ ∃ acc, H' D = some (.lst acc) ∧ acc.length ≤ i + 1 ∧ DpAll K (vis M' H') acc (((L.take (i + 1)).filter p).map Fm.toD), fun H' nx => ⟨_, by omega, rfl, c, nx⟩, fun x Hy y => ?_⟩
    obtain ⟨rfl, y⟩ := y
    have hxv := y xs (s.seq hs1)
    obtain ⟨d, hd, dv⟩ := dpAll_get ha hxv
    rw [List.getElem?_map, hx] at hd
    cases hd
    have ln : (wipe σ [j]).length = ρ.length := by show (σ.set j none).length = _; rw [List.length_set]; exact en.1
    have en1 : EnvD K (vis M' Hy) ((wipe σ [j]).set j (some x)) (ρ.set j (some (L[i]'(by omega)).toD)) := by
      have e2 := (EnvD.wipe (en.same ((vis_same e1).trans sv)) [j]).put (dp_same sv _ _ dv) j
      have e3 : (wipeR ρ [j]).set j (some (L[i]'(by omega)).toD) = ρ.set j (some (L[i]'(by omega)).toD) := by
        show (ρ.set j none).set j _ = _
        rw [List.set_set]
      rw [e3] at e2
      exact e2
    refine ⟨(wipe_set1 _ _ _).trans (wipe_one σ j), ?_⟩
    refine ht _ (List.getElem_mem (by omega)) M' _ Hy hidn ((vis_same e1).trans sv) (e1.trans s) en1 (fun k hk => ?_) _ fun H3 e3 => ?_
    · show ((σ.set j none).set j (some x))[k]? = σ[k]?
      rw [List.getElem?_set_ne hk.symm, List.getElem?_set_ne hk.symm]
    · have e5 : ((L.take (i + 1)).filter p).map Fm.toD = ((L.take i).filter p).map Fm.toD ++ (if p (L[i]'(by omega)) = true then [(L[i]'(by omega)).toD] else []) := outs_take hx
      rw [e5]
      cases b : p (L[i]'(by omega)) with
      | false =>
        rw [if_neg Bool.false_ne_true, if_neg Bool.false_ne_true, List.append_nil]
        exact ⟨s.trans e3, acc, e3 _ _ hD, by omega, dpAll_same (vis_same e3) _ _ dacc⟩
      | true =>
        rw [if_pos rfl, if_pos rfl]
        obtain ⟨u, au, du⟩ := en1.2 j (L[i]'(by omega)).toD (by rw [List.getElem?_set_self hj])
        refine ⟨u, au, acc, e3 _ _ hD, sl1001 (by omega), same_upd (s.trans e3) nD, acc ++ [u], upd_same, by rw [List.length_append, List.length_singleton]; omega, ?_⟩
        rw [vis_upd mD]
        exact dpAll_app (dpAll_same (vis_same e3) _ _ dacc) (.cons (dp_same (vis_same e3) _ _ du) .nil)
  · have e : i = L.length := by omega
    subst e
    rw [List.take_length] at dacc
    exact .inl ⟨⟨xs, s.seq hs1, by omega⟩, q D Hn acc (e1.trans s) nD0 hD (by rw [hM']; exact dacc)⟩
/-- any([x in proof.claim[k] for proof in inner]) -/
theorem any_pr {C : Addr} (PC : PCls K C) {n : Nat} {M : Addr → Bool} {σ : L2.St} {H : Hp} {l : Addr} {ws : List V} {inner : List Pr} {k : Int} {sd : Cl → List Fm} {i2 i6 i7 : Nat} {vx : V} {x : Fm} {Q : Bool → Hp → Prop} (hid : Hid M H) (h2 : σ[i2]? = some (some (.ref l))) (hl : H l = some (.lst ws)) (hp : PrVs K C (vis M H) n ws inner)
    (h6 : σ[i6]? = some (some vx)) (dx : Dp K (vis M H) vx x.toD) (xd : x.dep ≤ 60) (n67 : i6 ≠ i7) (n7 : i7 < σ.length) (hs : ∀ q ∈ inner, Sh (sd q.c)) (hk : ∀ c : Cl, atI [lsD c.1, lsD c.2] k = some (lsD (sd c))) (lw : ws.length ≤ 90000) (q : ∀ H', Same H H' → Q (inner.any fun p => decide (x ∈ sd p.c)) H') :
    tB (tCB (rAny K) (tCons (tLc (iList K (tVar i2)) (gName i7) tYes (tOp (rInD K) (tVar i6) (tOp (rIxT K) (tFld K (tVar i7) "claim") (tC (.int k)))) [i7]) tNil)) σ H Q := by
  refine ⟨.ref l, h2, l, rfl, ⟨ws, SqL.of hl⟩, fun D nD => ?_⟩
  have lp := hp.1
  refine ⟨fun i m Hn => m = ws.length - i ∧ i ≤ ws.length ∧ Same H Hn ∧ Hn D = some (.lst (((inner.take i).map fun p => decide (x ∈ sd p.c)).map V.bl)), ⟨_, rfl, Nat.zero_le _, same_new nD _, by rw [List.take_zero]; exact upd_same⟩, ?_⟩
  rintro i m Hn ⟨rfl, ile, s, hD⟩
  by_cases c : i < ws.length
  · have ci : i < inner.length := by omega
    refine .inr ⟨⟨ws, ws[i], SqL.of (s _ _ hl), List.getElem?_eq_getElem c⟩, fun H' => Same H H' ∧ H' D = some (.lst (((inner.take (i + 1)).map fun p => decide (x ∈ sd p.c)).map V.bl)), fun H' nx => ⟨_, by omega, rfl, c, nx⟩, fun u Hy y => ?_⟩
    obtain ⟨rfl, y⟩ := y
    have hu := y ws (SqL.of (s _ _ hl))
    have pv := prV_ext (same_ext_vis s) (hp.2 i u inner[i] hu (List.getElem?_eq_getElem ci))
    refine ⟨(wipe_set1 _ _ _).trans (wipe_one σ i7), ?_⟩
    match n, pv with
    | n' + 1, ⟨a, dx', l', vr, vc, ws', e1, e2, e3, e4, e5, e6, e7⟩ =>
      subst e1
      have g7 : ((wipe σ [i7]).set i7 (some (.ref a)))[i7]? = some (some (.ref a)) := by
        show ((σ.set i7 none).set i7 (some (.ref a)))[i7]? = _
        rw [List.getElem?_set_self (by rw [List.length_set]; exact n7)]
      have g6 : ((wipe σ [i7]).set i7 (some (.ref a)))[i6]? = some (some vx) := by
        show ((σ.set i7 none).set i7 (some (.ref a)))[i6]? = _
        rw [List.getElem?_set_ne n67.symm, List.getElem?_set_ne n67.symm]
        exact h6
      have e5' : Dp K Hy vc (.tuple [lsD inner[i].c.1, lsD inner[i].c.2]) := e5
      obtain ⟨b, bs, rfl, hb, db⟩ := dp_tupI e5'
      obtain ⟨y2, hy2, dy2⟩ := atI_dp db (hk inner[i].c)
      refine ⟨vx, g6, .ref a, g7, a, C, dx', _, .ref b, rfl, e2, PC.cl, PC.nc, prF_claim _ _ _, b, bs, k, y2, rfl, rfl, hb, hy2, ?_⟩
      have sx : SeqAt.shaped x.toD = true := shaped_fm x (by omega)
      refine ⟨x.toD, (sd inner[i].c).map Fm.toD, dp_same (vis_sub.trans s) _ _ dx, dy2, sx, sh_shaped (hs _ (List.getElem_mem ci)), ?_⟩
      have lt : (inner.take i).length = i := by rw [List.length_take]; omega
      refine ⟨_, hD, sl1001 (by rw [List.length_map, List.length_map, lt]; omega), same_upd s nD, ?_⟩
      rw [upd_same, any_fm, List.take_succ, List.getElem?_eq_getElem ci, Option.toList_some, List.map_append, List.map_append]
      rfl
  · have e : i = inner.length := by omega
    subst e
    rw [List.take_length] at hD
    refine .inl ⟨⟨ws, SqL.of (s _ _ hl), by omega⟩, ?_⟩
    refine ⟨D, inner.map fun p => decide (x ∈ sd p.c), rfl, SqL.of hD, _, rfl, ?_⟩
    have e2 : (inner.map fun p => decide (x ∈ sd p.c)).any id = inner.any fun p => decide (x ∈ sd p.c) := by rw [List.any_map]; rfl
    rw [e2]
    exact q Hn s
end
end Lm
set_option Elab.async false
set_option linter.all false
set_option maxRecDepth 100000
set_option maxHeartbeats 400000
/-! defs that grow a list that was handed in -/
namespace Lm
open PySem PySem.Spec PyProof.Rows L2
/-! what a comprehension within another walks -/
theorem pi_listK {X : Cx} {K : PySem.W.Frag} {tg l : Expr} {tl : TE} (h : X.K = K) (hl : PE X l tl) : PI X tg l (iList K tl) := by
  subst h
  exact pi_list hl
theorem pi_tupK {X : Cx} {K : PySem.W.Frag} {tg l : Expr} {tl : TE} (h : X.K = K) (hl : PE X l tl) : PI X tg l (iTup K tl) := by
  subst h
  exact pi_tup hl
/-- the first argument a list, out of sight, that is grown -/
def spMut (K : PySem.W.Frag) (m : Nat) (g : List PyData → List PyData → List PyData → Prop) : Sp := fun vs H Q _ => ∃ (M : Addr → Bool) (a : Addr) (us xs : List V) (ds es fs : List PyData), vs = .ref a :: us ∧ Hid M H ∧ M a = true ∧ H a = some (.lst xs) ∧ DpAll K (vis M H) xs ds ∧ us.length = m ∧ DpAll K (vis M H) us es ∧ g ds es fs ∧
  ∀ H' ys, (∀ b u, b ≠ a → H b = some u → H' b = some u) → H' a = some (.lst ys) → DpAll K (vis M H') ys fs → Q .non H'
def startM (N : List Str) (a : Addr) (ds es : List PyData) : RhoO := some (.m a ds) :: ((es.map fun d => some (Ent.d d)) ++ List.replicate (N.length - (es.length + 1)) none)
theorem envM_start {K : PySem.W.Frag} {M : Addr → Bool} {H : Hp} {N : List Str} {a : Addr} {us xs : List V} {ds es : List PyData} (hid : Hid M H) (ha : M a = true) (hx : H a = some (.lst xs)) (dx : DpAll K (vis M H) xs ds) (h : DpAll K (vis M H) us es) :
    EnvO K (fun b => M b && !(b == a)) (fun b => if b = a then none else H b) H (L2.start N (.ref a :: us)) (startM N a ds es) := by
  have ul := dpAll_len h
  have e := envD_app (N.length - (us.length + 1)) h
  have sd : ((es.map fun d => some (Ent.d d)) ++ List.replicate (N.length - (es.length + 1)) none) = ((es.map some ++ List.replicate (N.length - (us.length + 1)) none : Rho)).map (·.map Ent.d) := by
    rw [List.map_append, List.map_map, List.map_replicate, ul]
    rfl
  have st : L2.start N (.ref a :: us) = some (.ref a) :: (us.map some ++ List.replicate (N.length - (us.length + 1)) none) := rfl
  have ent : ∀ (i : Nat) (y : Ent), (startM N a ds es)[i + 1]? = some (some y) → ∃ d, y = .d d ∧ ((es.map some ++ List.replicate (N.length - (us.length + 1)) none : Rho))[i]? = some (some d) := fun i y q => by
    have q : ((es.map fun d => some (Ent.d d)) ++ List.replicate (N.length - (es.length + 1)) none)[i]? = some (some y) := q
    rw [sd, List.getElem?_map] at q
    cases c : ((es.map some ++ List.replicate (N.length - (us.length + 1)) none : Rho))[i]? with
    | none => rw [c] at q; cases q
    | some z =>
      rw [c] at q
      cases z with
      | none => cases q
      | some z => cases q; exact ⟨z, rfl, rfl⟩
  refine ⟨M, fun b z => ((Bool.and_eq_true _ _).mp z).1, hid, fun b u z => ?_, ?_, fun b z => ?_, fun i x q => ?_, fun i y fs q l => ?_, fun i j y y' fs gs p n q1 l1 q2 l2 _ _ => ?_⟩
  · have z : (if b = a then none else H b) = some u := z
    split at z
    · cases z
    · exact z
  · rw [st]
    show _ = (_ :: _).length
    rw [List.length_cons, List.length_cons, sd, List.length_map, e.1]
  · by_cases c : b = a
    · exact .inr (if_pos c)
    · refine .inl ?_
      show (M b && !(b == a)) = true
      rw [z, beq_eq_false_iff_ne.mpr c]
      rfl
  · cases i with
    | zero => cases q
    | succ i =>
      obtain ⟨d, z, q⟩ := ent i _ q
      cases z
      rw [st]
      exact e.2 i _ q
  · cases i with
    | zero =>
      cases q
      cases l
      refine ⟨a, xs, rfl, rfl, hx, ha, ?_, if_pos rfl, dx⟩
      show (M a && !(a == a)) = false
      simp
    | succ i =>
      obtain ⟨d, z, q⟩ := ent i _ q
      cases z
      cases l
  · cases i with
    | succ i =>
      obtain ⟨d, z, q⟩ := ent i _ q1
      cases z
      cases l1
    | zero =>
      cases j with
      | zero => exact absurd rfl n
      | succ j =>
        obtain ⟨d, z, q⟩ := ent j _ q2
        cases z
        cases l2
section
variable {P : Program} {w : World} {K : PySem.W.Frag} {mg : Str → Option Value} {base : Heap} {f : Addr} {fd : FuncData}
theorem ok_mut {x p0 : Str} {st : Stmt} {N ps : List Str} {k : Nat} {g : List PyData → List PyData → List PyData → Prop} (D : Df K mg x st (p0 :: ps) f fd) (S : FnScope N (p0 :: ps) (defScope st))
    (bd : ∀ (cdv : Value) (A : Around) (outer : List Env) (s : Shared) (H : Hp) (E : XK), Room k (A.deeper (envOfC x (defScope st) s.heap.objs.size f cdv)) →
      ∃ t, PSs (cxOf CX0 P w K mg base N x (defScope st) f cdv A outer s H E).nox (defBody st) t ∧ ∀ a ds es fs, es.length = ps.length → g ds es fs → PuO K t (startM N a ds es) (.rm a fs) ∨ ∃ (ρ : RhoO) (j : Nat), PuO K t (startM N a ds es) (.nx ρ) ∧ ρ[j]? = some (some (Ent.m a fs))) : FnOk P w K mg base CX0 (k + 1) f fd (p0 :: ps) (spMut K ps.length g) := by
  refine D.fn.ok S (fun vs H Q E h => ?_) (fun cdv A outer s H vs Q E hr h => ?_)
  · obtain ⟨M, a, us, xs, ds, es, fs, rfl, _, _, _, _, hl, _⟩ := h
    rw [List.length_cons, List.length_cons, hl]
  obtain ⟨M, a, us, xs, ds, es, fs, rfl, hid, ha, hx, dx, hl, hd, hg, q⟩ := h
  obtain ⟨t, ht, hp⟩ := bd cdv A outer s H E hr
  refine ⟨t, ht, ?_⟩
  have dl : es.length = ps.length := by rw [← dpAll_len hd, hl]
  have en := envM_start (N := N) hid ha hx dx hd
  have base0 : ∀ {H' : Hp}, Same (fun b => if b = a then none else H b) H' → ∀ b u, b ≠ a → H b = some u → H' b = some u := fun {H'} e b u n z => e b u (by show (if b = a then none else H b) = some u; rw [if_neg n]; exact z)
  have seen : ∀ {N' : Addr → Bool} {H' : Hp}, (∀ b, M b = true → N' b = true) → Same (vis N' H') (vis M H') := fun {N' H'} h => vis_le h
  rcases hp a ds es fs dl hg with hp | ⟨ρ, j, hp, hj⟩
  · refine hp _ _ _ _ en _ fun ys H' e hy dy => q H' ys (base0 e) hy (dpAll_same (seen fun b z => ?_) _ _ dy)
    show (M b && !(b == a) || b == a) = true
    rw [z]
    cases b == a <;> rfl
  · refine hp _ _ _ _ en _ fun σ H' ⟨M', e⟩ => ?_
    obtain ⟨p, ws, _, a0, b, c1, c2, c3, c4⟩ := e.own j _ fs hj rfl
    have a0 : p = a := a0
    subst a0
    refine q H' ws (base0 e.same) b (dpAll_same (seen fun b z => ?_) _ _ c4)
    by_cases c : b = p
    · rw [c]; exact c1
    · refine e.le b ?_
      show (M b && !(b == p)) = true
      rw [z, beq_eq_false_iff_ne.mpr c]
      rfl
end
/-! ### flat things reckoned of own lists, within what is made anew -/
def PuX (K : PySem.W.Frag) (te : TE) (ρ : RhoO) (d : PyData) : Prop := ∀ M M' H0 H σ, EnvM K M M' H0 H σ ρ → ∀ Q : VK, (∀ v H', Same H H' → Dp K (vis M' H') v d → Q v H') → te σ H Q
def PaX (K : PySem.W.Frag) (ta : TA) (ρ : RhoO) (ds : List PyData) : Prop := ∀ M M' H0 H σ, EnvM K M M' H0 H σ ρ → ∀ Q : List V → Hp → Prop, (∀ vs H', Same H H' → DpAll K (vis M' H') vs ds → Q vs H') → ta σ H Q
section
variable {K : PySem.W.Frag} {ρ : RhoO} {te : TE} {tA : TA} {d : PyData} {ds es fs : List PyData} {u : TS} {o : OutO}
theorem px_of (h : PuE K te (hidn ρ) d) : PuX K te ρ d := fun M M' H0 H σ en Q q => h M' σ H en.hid en.hidn Q q
theorem px_flat (h : PuE K te (seen ρ) d) (f : flatD d = true) : PuX K te ρ d := fun M M' H0 H σ en Q q => h M σ H en.hidM en.seen Q fun v H' e hv => q v H' e (dp_flat f hv)
theorem px_nil : PaX K tNil ρ [] := fun M M' H0 H σ en Q q => q [] H (Same.refl _) .nil
theorem px_cons (h : PuX K te ρ d) (k : PaX K tA ρ ds) : PaX K (tCons te tA) ρ (d :: ds) := fun M M' H0 H σ en Q q =>
  h M M' H0 H σ en _ fun v H1 e1 hv => k M M' H0 H1 σ (en.next e1) _ fun vs H2 e2 hvs => q _ H2 (e1.trans e2) (.cons (dp_same (vis_same e2) _ _ hv) hvs)
theorem px_lst (h : PaX K tA ρ ds) (hl : ds.length ≤ 100000) : PuX K (tLst tA) ρ (.list ds) := fun M M' H0 H σ en Q q =>
  h M M' H0 H σ en _ fun vs H1 e1 hvs => ⟨sl1000 (by rw [dpAll_len hvs]; exact hl), fun p np => q (.ref p) _ (e1.trans (same_new np _)) (.lst (SqL.of (vis_new (en.hid.same e1) np)) (dpAll_same (vis_same (same_new np _)) _ _ hvs))⟩
theorem px_tup (h : PaX K tA ρ ds) (hl : ds.length ≤ 100000) : PuX K (tTup tA) ρ (.tuple ds) := fun M M' H0 H σ en Q q =>
  h M M' H0 H σ en _ fun vs H1 e1 hvs => ⟨sl1000 (by rw [dpAll_len hvs]; exact hl), fun p np => q (.ref p) _ (e1.trans (same_new np _)) (.tup (SqT.of (vis_new (en.hid.same e1) np)) (dpAll_same (vis_same (same_new np _)) _ _ hvs))⟩
theorem px_ixO {i : Nat} {y0 : Ent} {tb : TE} {k : Int} (hi : ρ[i]? = some (some y0)) (hy : y0.lst = some ds) (h : PuX K tb ρ (.int k)) (e : atI ds k = some d) : PuX K (tOp (rIxL K) (tVar i) tb) ρ d := fun M M' H0 H σ en Q q => by
  obtain ⟨p, vs, a, _, b, c1, c2, c3, c4⟩ := en.own i y0 ds hi hy
  refine ⟨.ref p, a, h M M' H0 H σ en _ fun v H1 e1 hv => ?_⟩
  obtain rfl := dp_intI hv
  obtain ⟨x, hx, dx⟩ := atI_dp c4 e
  exact ⟨p, vs, k, x, rfl, rfl, SqL.of (e1 _ _ b), hx, q x H1 e1 (dp_same (vis_same e1) _ _ dx)⟩
theorem px_ixT {ta tb : TE} {k : Int} (h1 : PuX K ta ρ (.tuple ds)) (h2 : PuX K tb ρ (.int k)) (e : atI ds k = some d) : PuX K (tOp (rIxT K) ta tb) ρ d := fun M M' H0 H σ en Q q =>
  h1 M M' H0 H σ en _ fun v H1 e1 hv => h2 M M' H0 H1 σ (en.next e1) _ fun u H2 e2 hu => by
    obtain ⟨a, vs, rfl, hs, ha⟩ := dp_tupI (dp_same (vis_same e2) _ _ hv)
    obtain rfl := dp_intI hu
    obtain ⟨x, hx, dx⟩ := atI_dp ha e
    exact ⟨a, vs, k, x, rfl, rfl, sqT_same vis_sub hs, hx, q x H2 (e1.trans e2) dx⟩
theorem puo_setX {i : Nat} (h : PuX K te ρ d) (k : PuO K u (ρ.set i (some (.d d))) o) : PuO K (tSeq (tAsg te (gName i)) u) ρ o := puo_seq (ρ' := ρ.set i (some (.d d))) (fun M H0 H σ ⟨M', en⟩ D q => h M M' H0 H σ en _ fun v H1 e1 hv => q _ H1 ⟨M', (en.next e1).put hv i⟩) k
theorem puo_setX1 {i : Nat} (h : PuX K te ρ d) : PuO K (tAsg te (gName i)) ρ (.nx (ρ.set i (some (.d d)))) := fun M H0 H σ ⟨M', en⟩ D q => h M M' H0 H σ en _ fun v H1 e1 hv => q _ H1 ⟨M', (en.next e1).put hv i⟩
/-- the call of a def that grows an own list -/
theorem puo_mut {i m : Nat} {y0 : Ent} {g : List PyData → List PyData → List PyData → Prop} (hi : ρ[i]? = some (some y0)) (hy : y0.lst = some ds) (h : PaX K tA ρ es) (hm : es.length = m := by rfl) (hg : g ds es fs) :
    PuO K (tDrop (tCall (spMut K m g) [] E0 (tCons (tVar i) tA))) ρ (.nx (ρ.set i (some (y0.wth fs)))) := fun M H0 H σ ⟨M', en⟩ D q => by
  obtain ⟨p, ws, a, _, b, c1, c2, c3, c4⟩ := en.own i y0 ds hi hy
  refine ⟨_, a, h M M' H0 H σ en _ fun us H1 e1 hus => ?_⟩
  have en1 := en.next e1
  refine ⟨M', p, us, ws, ds, es, fs, by rw [List.append_nil], en.hid.same e1, c1, e1 _ _ b, dpAll_same (vis_same e1) _ _ c4, by rw [dpAll_len hus, hm], hus, hg, fun H' ys ne hy' dy => ?_⟩
  exact q σ H' ⟨M', en1.mut hi hy a ne hy' dy⟩
end
end Lm
set_option Elab.async false
set_option linter.all false
set_option maxRecDepth 100000
set_option maxHeartbeats 1000000
namespace Lm
open PySem PySem.Spec PyProof.Rows L2 LamX
abbrev sPInit : Stmt := inClass sCProof 0
def spPInit (C : Addr) : Sp := fun vs H Q _ => ∃ (p dx : Addr) (r i c : V), vs = [.ref p, r, i, c] ∧ H p = some (.ins C dx []) ∧ Q .non (upd H p (.ins C dx (prF r i c)))
theorem wipe_two_at {σ σ' : L2.St} {j k i : Nat} (h : wipe σ' [j, k] = wipe σ [j, k]) (n1 : i ≠ j) (n2 : i ≠ k) : σ'[i]? = σ[i]? := by
  have e : ((σ'.set k none).set j none)[i]? = ((σ.set k none).set j none)[i]? := congrArg (fun l : L2.St => l[i]?) h
  rwa [List.getElem?_set_ne n1.symm, List.getElem?_set_ne n2.symm, List.getElem?_set_ne n1.symm, List.getElem?_set_ne n2.symm] at e
def spRested (K : PySem.W.Frag) (C : Addr) : Sp := fun vs H Q _ => ∃ (M : Addr → Bool) (n : Nat) (vc vr : V) (l : Addr) (ws : List V) (c : Cl) (w : Wd) (f : Fm) (inner : List Pr), vs = [vc, vr, .ref l] ∧ Hid M H ∧ Dp K (vis M H) vc c.toD ∧ Dp K (vis M H) vr (Ru.fm w f).toD ∧ H l = some (.lst ws) ∧ PrVs K C (vis M H) n ws inner ∧
  LowC c ∧ f.dep ≤ 60 ∧ inner.length ≤ 10 ∧ (∀ q ∈ inner, Sh q.c.1 ∧ Sh q.c.2) ∧ ∀ v' H', Same H H' → Dp K (vis M H') v' (rested c w f inner).toD → Q v' H'
theorem pe_fldK {X : Cx} {K : PySem.W.Frag} {e : Expr} {f : Str} {te : TE} {pos : Pos} (h : X.K = K) (he : PE X e te) (hb : attributeBase e f X.env (eval e X.env) = eval e X.env) : PE X (.Attribute e f pos) (tFld K te f) := by
  subst h
  exact pe_fld he hb
section
variable {P : Program} {w : World} {K : PySem.W.Frag} {mg : Str → Option Value} {base : Heap} {f : Addr} {fd : FuncData}
theorem scPInit : FnScope ["self", "rule", "inner", "claim"] ["self", "rule", "inner", "claim"] (defScope sPInit) := ⟨rfl, rfl, rfl, by decide +kernel, rfl, by decide +kernel, by decide +kernel⟩
theorem ok_pinit {C : Addr} (F : Fun K "__init__" "Proof.__init__" sPInit f fd) (PC : PCls K C) : FnOk P w K mg base CX0 1 f fd ["self", "rule", "inner", "claim"] (spPInit C) := by
  refine F.ok scPInit (fun vs H Q E h => ?_) (fun cdv A outer s H vs Q E hr h => ?_)
  · obtain ⟨p, dx, r, i, c, rfl, _⟩ := h
    rfl
  obtain ⟨p, dx, r, i, c, rfl, hp, q⟩ := h
  refine ⟨_, pss_cons (ps_fld (pv 0) (pv 1) rfl) (pss_cons (ps_fld (pv 0) (pv 2) rfl) (pss_one (ps_fld (pv 0) (pv 3) rfl))), ?_⟩
  refine ⟨_, rfl, _, rfl, p, C, dx, [], rfl, hp, PC.cl, PC.nr, (by show 0 < 1000; decide), _, rfl, _, rfl, p, C, dx, _, rfl, upd_same, PC.cl, PC.ni, (by show 1 < 1000; decide), _, rfl, _, rfl, p, C, dx, _, rfl, upd_same, PC.cl, PC.nc, (by show 2 < 1000; decide), ?_⟩
  rw [upd_upd, upd_upd]
  exact q
theorem scRestedOn : FnScope ["claim", "rule", "inner", "word", "told", "left", "f", "proof", "right"] ["claim", "rule", "inner"] (defScope sRestedOn) := ⟨rfl, rfl, rfl, by decide +kernel, rfl, by decide +kernel, by decide +kernel⟩
theorem ok_restedOn {C : Addr} (D : Df K mg "_rested_on" sRestedOn ["claim", "rule", "inner"] f fd) (B : Blt mg) (b_any : mg "any" = none) (PC : PCls K C) : FnOk P w K mg base CX0 1 f fd ["claim", "rule", "inner"] (spRested K C) := by
  refine D.fn.ok scRestedOn (fun vs H Q E h => ?_) (fun cdv A outer s H vs Q E hr h => ?_)
  · obtain ⟨M, n, vc, vr, l, ws, c, w, f, inner, rfl, _⟩ := h
    rfl
  obtain ⟨M, n, vc, vr, l, ws, c, wd, g, inner, rfl, hid, dc, dr, hl, pvs, lc, gd, li, shi, q⟩ := h
  have hu : (A.deeper (envOfC "_rested_on" (defScope sRestedOn) s.heap.objs.size f cdv)).units + 65 < cLine := by have := hr.un; omega
  refine ⟨_, (pss_cons (ps_asg (pv 1) (pg_tup rfl (pgs_cons (pg_name (i := 3) scRestedOn.nd rfl (by first | exact Or.inl rfl | exact Or.inr rfl)) (pgs_cons (pg_name (i := 4) scRestedOn.nd rfl (by first | exact Or.inl rfl | exact Or.inr rfl)) pgs_nil))))
    (pss_cons (ps_setLc (i := 5) (own := [("f", 6)]) (g := gName 6) rfl scRestedOn.nd rfl rfl (sw_true rfl rfl rfl (by decide +kernel)) (pi_list (pe_ix (r := rIxT K) ix_tup (pv 0) pe_int (fun _ _ => rfl))) (blkOk_by (N := ["claim", "rule", "inner", "word", "told", "left", "f", "proof", "right"]) (sc := defScope sRestedOn) (by decide +kernel)) (fun _ _ _ _ _ => (pg_name (i := 6) scRestedOn.nd rfl (by first | exact Or.inl rfl | exact Or.inr rfl))) (fun _ _ _ _ _ => (pts_one (pt_val (pe_callB (r := rAny K) (cr_any rfl) (by rfl) b_any bt_any (pa_cons (pe_lc (own := [("proof", 7)]) (g := gName 7) (tt := tYes) rfl scRestedOn.nd (pi_listK (K := K) rfl (pv 2)) (blkOk_by (by rfl)) (fun _ _ _ _ _ => (pg_name (i := 7) scRestedOn.nd rfl (by first | exact Or.inl rfl | exact Or.inr rfl))) (fun _ _ _ _ _ => pts_nil) (fun _ _ _ _ _ => (pe_cmpR (r := rInD K) (op_inD hu) (pv 6) (pe_ix (r := rIxT K) ix_tup (pe_fldK (K := K) rfl (pv 7) rfl) pe_int (fun _ _ => rfl)) (by rfl)))) pa_nil))))) (fun _ _ _ _ _ => (pv 6)))
    (pss_cons (ps_setLc (i := 8) (own := [("f", 6)]) (g := gName 6) rfl scRestedOn.nd rfl rfl (sw_true rfl rfl rfl (by decide +kernel)) (pi_list (pe_ix (r := rIxT K) ix_tup (pv 0) pe_int (fun _ _ => rfl))) (blkOk_by (N := ["claim", "rule", "inner", "word", "told", "left", "f", "proof", "right"]) (sc := defScope sRestedOn) (by decide +kernel)) (fun _ _ _ _ _ => (pg_name (i := 6) scRestedOn.nd rfl (by first | exact Or.inl rfl | exact Or.inr rfl))) (fun _ _ _ _ _ => (pts_one (pt_val (pe_callB (r := rAny K) (cr_any rfl) (by rfl) b_any bt_any (pa_cons (pe_lc (own := [("proof", 7)]) (g := gName 7) (tt := tYes) rfl scRestedOn.nd (pi_listK (K := K) rfl (pv 2)) (blkOk_by (by rfl)) (fun _ _ _ _ _ => (pg_name (i := 7) scRestedOn.nd rfl (by first | exact Or.inl rfl | exact Or.inr rfl))) (fun _ _ _ _ _ => pts_nil) (fun _ _ _ _ _ => (pe_cmpR (r := rInD K) (op_inD hu) (pv 6) (pe_ix (r := rIxT K) ix_tup (pe_fldK (K := K) rfl (pv 7) rfl) pe_int (fun _ _ => rfl)) (by rfl)))) pa_nil))))) (fun _ _ _ _ _ => (pv 6)))
    (pss_cons (ps_if (pt_cmpR op_ne (pv 3) pe_str (nomark _)) (pss_one (ps_expr (pe_bm PySem.F.plainAttrs_list PySem.F.slot_list_append PySem.F.type_list_append mt_append (pv 5) (pa_cons (pv 4) pa_nil)))) pss_nil)
    (pss_cons (ps_if (pt_cmpR op_ne (pv 3) pe_str (nomark _)) (pss_one (ps_expr (pe_bm PySem.F.plainAttrs_list PySem.F.slot_list_append PySem.F.type_list_append mt_append (pv 8) (pa_cons (pv 4) pa_nil)))) pss_nil)
    (pss_one (ps_ret (pe_tup (pa_cons (pv 5) (pa_cons (pv 8) pa_nil)))))))))), ?_⟩
  have en : EnvD K (vis M H) (L2.start ["claim", "rule", "inner", "word", "told", "left", "f", "proof", "right"] [vc, vr, .ref l]) [some c.toD, some (Ru.fm wd g).toD, none, none, none, none, none, none, none] := .cons dc (.cons dr (.non (.non (.non (.non (.non (.non (.non .nil (none)) none) none) none) none) none) (some (.ref l))))
  have s2 : (L2.start ["claim", "rule", "inner", "word", "told", "left", "f", "proof", "right"] [vc, vr, .ref l])[2]? = some (some (.ref l)) := rfl
  generalize L2.start ["claim", "rule", "inner", "word", "told", "left", "f", "proof", "right"] [vc, vr, .ref l] = σ at en s2
  dsimp only [tSeq]
  -- word, told = rule
  obtain ⟨vr', ar, dr'⟩ := en.2 1 _ rfl
  refine ⟨vr', ar, ?_⟩
  refine pug_two (K := K) (d := .str wd.txt) (e := g.toD) 3 4 M σ H vr' en dr' _ fun σ1 en1 wq => ?_
  have s12 : σ1[2]? = some (some (.ref l)) := by rw [wipe_two_at wq (by decide) (by decide)]; exact s2
  have len1 : σ1.length = 9 := en1.1
  have en1 : EnvD K (vis M H) σ1 [some c.toD, some (Ru.fm wd g).toD, none, some (.str wd.txt), some g.toD, none, none, none, none] := en1
  have li9 : ws.length ≤ 90000 := by rw [pvs.1]; omega
  -- the left
  dsimp only [tSeq]
  refine lc_own (j := 6) (p := fun x => inner.any fun p => decide (x ∈ p.c.1)) hid en1 (pu_ixT (pu_cl (pu_var (i := 0) rfl)) (pu_int 0) (cix0 c)) (by have := lc.2.2.1; omega) (by show 6 < 9; decide) (fun x hx M' σ' H' hid' sv sH en' so Q' hq => ?_) fun D1 H2 acc1 e2 nD1 hD1 da1 => ?_
  · obtain ⟨vx, ax, dx⟩ := en'.2 6 x.toD rfl
    exact any_pr PC (sd := fun c => c.1) (i7 := 7) hid' (by rw [so 2 (by decide)]; exact s12) (sH _ _ hl) (prVs_ext (Ext_of sv) pvs) ax dx (Nat.le_trans (lc.1 x hx) (by decide)) (by decide) (by rw [en'.1]; show 7 < 9; decide) (fun q hq => (shi q hq).1) cix0 li9 hq
  dsimp only [gName, tSeq]
  generalize hM1 : (fun b => M b || b == D1) = M1 at da1
  have nMD1 : M D1 = false := hid.non nD1
  have mD1 : M1 D1 = true := by rw [← hM1]; simp
  have sv1 : Same (vis M H) (vis M1 H2) := by rw [← hM1]; exact same_vis_or nD1 e2
  have hid1 : Hid M1 H2 := by rw [← hM1]; exact hid_or (hid.same e2) hD1
  have en2 : EnvD K (vis M1 H2) (σ1.set 5 (some (.ref D1))) [some c.toD, some (Ru.fm wd g).toD, none, some (.str wd.txt), some g.toD, none, none, none, none] := by
    refine ⟨by rw [List.length_set]; exact en1.1, fun i d hd => ?_⟩
    obtain ⟨v, av, dv⟩ := en1.2 i d hd
    refine ⟨v, ?_, dp_same sv1 _ _ dv⟩
    by_cases z : (5 : Nat) = i
    · subst z; cases hd
    · rw [List.getElem?_set_ne z]; exact av
  have s22 : (σ1.set 5 (some (.ref D1)))[2]? = some (some (.ref l)) := by rw [List.getElem?_set_ne (by decide)]; exact s12
  have s25 : (σ1.set 5 (some (.ref D1)))[5]? = some (some (.ref D1)) := List.getElem?_set_self (by omega)
  generalize σ1.set 5 (some (.ref D1)) = σ2 at en2 s22 s25 ⊢
  -- the right
  refine lc_own (j := 6) (p := fun x => inner.any fun p => decide (x ∈ p.c.2)) hid1 en2 (pu_ixT (pu_cl (pu_var (i := 0) rfl)) (pu_int 1) (cix1 c)) (by have := lc.2.2.2; omega) (by show 6 < 9; decide) (fun x hx M' σ' H' hid' sv sH en' so Q' hq => ?_) fun D2 H3 acc2 e3 nD2 hD2 da2 => ?_
  · obtain ⟨vx, ax, dx⟩ := en'.2 6 x.toD rfl
    exact any_pr PC (sd := fun c => c.2) (i7 := 7) hid' (by rw [so 2 (by decide)]; exact s22) (sH _ _ (e2 _ _ hl)) (prVs_ext (Ext_of (sv1.trans sv)) pvs) ax dx (Nat.le_trans (lc.2.1 x hx) (by decide)) (by decide) (by rw [en'.1]; show 7 < 9; decide) (fun q hq => (shi q hq).2) cix1 li9 hq
  dsimp only [gName, tSeq]
  generalize hM2 : (fun b => M1 b || b == D2) = M2 at da2
  have mD2 : M2 D2 = true := by rw [← hM2]; simp
  have mD12 : M2 D1 = true := by rw [← hM2]; simp [mD1]
  have sv2 : Same (vis M1 H2) (vis M2 H3) := by rw [← hM2]; exact same_vis_or nD2 e3
  have hD13 := e3 _ _ hD1
  have n12 : D1 ≠ D2 := fun z => by rw [z, nD2] at hD1; cases hD1
  have nMD2 : M D2 = false := hid.non (by
    cases z : H D2 with
    | none => rfl
    | some u => rw [e2 _ _ z] at nD2; cases nD2)
  have da1' : DpAll K (vis M2 H3) acc1 ((c.1.filter fun x => inner.any fun p => decide (x ∈ p.c.1)).map Fm.toD) := dpAll_same sv2 _ _ da1
  obtain ⟨vt, at4, dt⟩ := en2.2 4 g.toD rfl
  obtain ⟨vw, at3, dw⟩ := en2.2 3 (.str wd.txt) rfl
  obtain rfl := dp_strI dw
  have len2 : σ2.length = 9 := en2.1
  have t3 : (σ2.set 8 (some (.ref D2)))[3]? = some (some (.str wd.txt)) := by rw [List.getElem?_set_ne (by decide)]; exact at3
  have t4 : (σ2.set 8 (some (.ref D2)))[4]? = some (some vt) := by rw [List.getElem?_set_ne (by decide)]; exact at4
  have t5 : (σ2.set 8 (some (.ref D2)))[5]? = some (some (.ref D1)) := by rw [List.getElem?_set_ne (by decide)]; exact s25
  have t8 : (σ2.set 8 (some (.ref D2)))[8]? = some (some (.ref D2)) := List.getElem?_set_self (by omega)
  generalize σ2.set 8 (some (.ref D2)) = σ3 at t3 t4 t5 t8 ⊢
  have dt3 : Dp K (vis M2 H3) vt g.toD := dp_same sv2 _ _ dt
  have l1 : acc1.length ≤ 1000 := by
    have := dpAll_len da1
    rw [List.length_map] at this
    have := List.length_filter_le (fun x => inner.any fun p => decide (x ∈ p.c.1)) c.1
    have := lc.2.2.1
    omega
  have l2 : acc2.length ≤ 1000 := by
    have := dpAll_len da2
    rw [List.length_map] at this
    have := List.length_filter_le (fun x => inner.any fun p => decide (x ∈ p.c.2)) c.2
    have := lc.2.2.2
    omega
  have eH3 : Same H H3 := e2.trans e3
  -- what is told of the end
  have fin : ∀ (a1 a2 : List V) (H5 : Hp), Same H H5 → H5 D1 = some (.lst a1) → H5 D2 = some (.lst a2) → DpAll K (vis M2 H5) a1 ((rested c wd g inner).1.map Fm.toD) → DpAll K (vis M2 H5) a2 ((rested c wd g inner).2.map Fm.toD) →
      tRet (tTup (tCons (tVar 5) (tCons (tVar 8) tNil))) { nx := fun _ H' => Q .non H', rt := Q } σ3 H5 := fun a1 a2 H5 e5 h1 h2 d1 d2 => by
    refine ⟨_, t5, _, t8, sl1000 (by show 2 ≤ 100000; decide), fun t nt => q _ _ (e5.trans (same_new nt _)) ?_⟩
    have e6 := same_new nt (HO.tup [V.ref D1, V.ref D2])
    have nt0 : H t = none := by
      cases z : H t with
      | none => rfl
      | some u => rw [e5 _ _ z] at nt; cases nt
    have seen : ∀ {b : Addr} {o : HO}, M b = false → upd H5 t (.tup [V.ref D1, V.ref D2]) b = some o → vis M (upd H5 t (.tup [V.ref D1, V.ref D2])) b = some o := fun hb h => by unfold vis; rw [hb, if_neg Bool.false_ne_true]; exact h
    have le : ∀ b, M b = true → M2 b = true := fun b hb => by rw [← hM2, ← hM1]; simp [hb]
    have sv5 : Same (vis M2 H5) (vis M (upd H5 t (.tup [V.ref D1, V.ref D2]))) := (vis_same e6).trans (vis_le le)
    exact .tup (SqT.of (seen (hid.non nt0) upd_same)) (.cons (.lst (SqL.of (seen nMD1 (e6 _ _ h1))) (dpAll_same sv5 _ _ d1)) (.cons (.lst (SqL.of (seen nMD2 (e6 _ _ h2))) (dpAll_same sv5 _ _ d2)) .nil))
  have hL : (rested c wd g inner).1 = (c.1.filter fun x => inner.any fun p => decide (x ∈ p.c.1)) ++ (if wd = .right then [] else [g]) := rfl
  have hR : (rested c wd g inner).2 = (c.2.filter fun x => inner.any fun p => decide (x ∈ p.c.2)) ++ (if wd = .left then [] else [g]) := rfl
  have txt : ∀ v : Wd, decide (V.str wd.txt = V.str v.txt) = decide (wd = v) := fun v => decide_eq_decide.mpr ⟨fun z => wtxt_inj (V.str.inj z), fun z => by rw [z]⟩
  -- the second append, from where the first one has been
  have second : ∀ (a1 : List V) (H4 : Hp), Same H H4 → H4 D1 = some (.lst a1) → H4 D2 = some (.lst acc2) → vis M2 H4 = vis M2 H3 → DpAll K (vis M2 H4) a1 ((rested c wd g inner).1.map Fm.toD) →
      tIfS (tTest (tOp rNe (tVar 3) (tC (.str ("left" : Str))))) (tDrop (tBM K "list" rAppend (tVar 8) (tCons (tVar 4) tNil))) tNext { nx := fun σ H => tRet (tTup (tCons (tVar 5) (tCons (tVar 8) tNil))) { nx := fun _ H' => Q .non H', rt := Q } σ H, rt := Q } σ3 H4 := fun a1 H4 e4 h1 h2 hv d1 => by
    refine ⟨_, t3, rfl, _, rfl, ?_⟩
    have e := txt .left
    rw [show (V.str ("left" : Str)) = V.str (Wd.left).txt from rfl, e]
    by_cases z : wd = .left
    · rw [decide_eq_true z]
      refine iteF ?_
      refine fin a1 acc2 H4 e4 h1 h2 d1 ?_
      rw [hR, if_pos z, List.append_nil, hv]
      exact da2
    · rw [decide_eq_false z]
      refine iteT ?_
      refine ⟨_, t8, .inl ⟨rfl, _, .inl (.inl h2)⟩, _, t4, D2, acc2, vt, rfl, rfl, h2, sl1001 (by omega), ?_⟩
      have nHD2 : H D2 = none := by
        cases y : H D2 with
        | none => rfl
        | some u => rw [e2 _ _ y] at nD2; cases nD2
      refine fin a1 (acc2 ++ [vt]) _ (same_upd e4 nHD2) (by rw [upd_ne n12]; exact h1) upd_same (by rw [vis_upd mD2]; exact d1) ?_
      rw [vis_upd mD2, hv, hR, if_neg z, List.map_append]
      exact dpAll_app da2 (.cons dt3 .nil)
  refine ⟨_, t3, rfl, _, rfl, ?_⟩
  have e := txt .right
  rw [show (V.str ("right" : Str)) = V.str (Wd.right).txt from rfl, e]
  by_cases z : wd = .right
  · rw [decide_eq_true z]
    refine iteF ?_
    refine second acc1 H3 eH3 hD13 hD2 rfl ?_
    rw [hL, if_pos z, List.append_nil]
    exact da1'
  · rw [decide_eq_false z]
    refine iteT ?_
    refine ⟨_, t5, .inl ⟨rfl, _, .inl (.inl hD13)⟩, _, t4, D1, acc1, vt, rfl, rfl, hD13, sl1001 (by omega), ?_⟩
    refine second (acc1 ++ [vt]) _ (same_upd eH3 nD1) upd_same (by rw [upd_ne n12.symm]; exact hD2) (vis_upd mD12) ?_
    rw [vis_upd mD12, hL, if_neg z, List.map_append]
    exact dpAll_app da1' (.cons dt3 .nil)
end
end Lm
set_option Elab.async false
set_option linter.all false
set_option maxRecDepth 100000
set_option maxHeartbeats 400000
/-! proofs found: their claims' sizes; the search turn by turn -/
namespace Lm
open PySem PySem.Spec PyProof.Rows L2
theorem searchL_from {g : Cl → Res} {c : Cl} {p : Pr} : ∀ (ls : List Cl) (acc : List Pr), searchL g c ls acc = .inl (.proof p) → ∃ l ∈ ls, g l = .proof p
  | [], acc, h => by cases h
  | a :: as, acc, h => by
    rw [searchL] at h
    cases e : g a with
    | world ws => rw [e] at h; cases h
    | proof q =>
      rw [e] at h
      dsimp only at h
      split at h
      · cases h
        exact ⟨a, List.mem_cons_self, e⟩
      · obtain ⟨l, hl, k⟩ := searchL_from as _ h
        exact ⟨l, List.mem_cons_of_mem _ hl, k⟩
theorem search_len : ∀ (n : Nat) (c : Cl) (p : Pr), CS c → wordsC c < n → search n c = .proof p → p.c.1.length ≤ wordsC c + 1 ∧ p.c.2.length ≤ wordsC c + 1
  | 0, c, p, _, h, _ => absurd h (Nat.not_lt_zero _)
  | n + 1, c, p, cs, hn, h => by
    rw [search] at h
    cases e : nextRule c with
    | none => rw [e] at h; cases h
    | some wf =>
      obtain ⟨w, f⟩ := wf
      rw [e] at h
      dsimp only at h
      obtain ⟨hw, ft⟩ := next_some e
      cases e2 : searchL (search n) c (led c w f) [] with
      | inl r =>
        rw [e2] at h
        dsimp only at h
        subst h
        obtain ⟨l, hl, k⟩ := searchL_from _ _ e2
        have lw : wordsC l + 1 ≤ wordsC c := by
          rcases hw with rfl | hw
          · cases hl
          · exact led_words hw ft hl
        have := search_len n l p (led_CS cs hw ft hl) (by omega) k
        omega
      | inr inner =>
        rw [e2] at h
        dsimp only at h
        cases h
        have a := words_len c.1
        have b := words_len c.2
        have wc : wordsC c = wordsS c.1 + wordsS c.2 := rfl
        constructor
        · show ((c.1.filter fun x => inner.any fun p => decide (x ∈ p.c.1)) ++ (if w = .right then [] else [f])).length ≤ _
          rw [List.length_append]
          have := List.length_filter_le (fun x => inner.any fun p => decide (x ∈ p.c.1)) c.1
          have : (if w = .right then ([] : List Fm) else [f]).length ≤ 1 := by split <;> simp
          omega
        · show ((c.2.filter fun x => inner.any fun p => decide (x ∈ p.c.2)) ++ (if w = .left then [] else [f])).length ≤ _
          rw [List.length_append]
          have := List.length_filter_le (fun x => inner.any fun p => decide (x ∈ p.c.2)) c.2
          have : (if w = .left then ([] : List Fm) else [f]).length ≤ 1 := by split <;> simp
          omega
theorem gd_subC {a b : Cl} (h : GdC b) (s : Sub a b) : GdC a := ⟨fun f hf => h.1 f (s.1 f hf), fun f hf => h.2 f (s.2 f hf)⟩
end Lm
set_option Elab.async false
set_option linter.all false
set_option maxRecDepth 100000
set_option maxHeartbeats 400000
/-! comprehensions whose list is told as a new one, of any length -/
namespace Lm
open PySem PySem.Spec PyProof.Rows L2
section
variable {K : PySem.W.Frag} {ρ ρ' ρ'' : Rho} {te ta tb tc : TE} {tA : TA} {tt tu : TT} {d e : PyData} {ds es : List PyData} {wi : TI} {g : TG} {vs : List Nat}
theorem pl_lc {α : Type} {xs : List α} {td : α → PyData} (hi : PuI K wi ρ (xs.map td)) (hl : xs.length ≤ sizeLine) (p : α → Bool) (f : α → PyData) (hb : ∀ x ∈ xs, ∃ ρ', PuG K g vs (wipeR ρ vs) (td x) ρ' ∧ PuT K tt ρ' (p x) ∧ (p x = true → PuE K te ρ' (f x))) (hw : ∀ σ : L2.St, wipe (wipe σ vs) vs = wipe σ vs)  {M : Addr → Bool} {σ : L2.St} {H : Hp} (hid : Hid M H) (en : EnvD K (vis M H) σ ρ) {Q : VK} (q : ∀ D Hn acc, Same H Hn → H D = none → Hn D = some (.lst acc) → DpAll K (vis (fun b => M b || b == D) Hn) acc ((xs.filter p).map f) → Q (.ref D) Hn) :
    tLc wi g tt te vs σ H Q := hi M σ H hid en _ fun J H1 e1 it D nD => by
  have hid1 := hid.same e1
  have nM : M D = false := hid1.non nD
  generalize hM' : (fun b => M b || b == D) = M'
  have mD : M' D = true := by rw [← hM']; simp
  have nD0 : H D = none := e1.free nD
  have fin : ∀ Hn acc, Same H1 Hn → Hn D = some (.lst acc) → DpAll K (vis M' Hn) acc ((xs.filter p).map f) → Q (.ref D) Hn := fun Hn acc s hD ha => q D Hn acc (e1.trans s) nD0 hD (by rw [hM']; exact ha)
  refine ⟨fun i m Hn => m = xs.length - i ∧ i ≤ xs.length ∧ Same H1 Hn ∧ ∃ acc, Hn D = some (.lst acc) ∧ acc.length ≤ i ∧ DpAll K (vis M' Hn) acc (((xs.take i).filter p).map f), ⟨_, rfl, Nat.zero_le _, same_new nD _, [], upd_same, Nat.le_refl _, ?_⟩, ?_⟩
  · rw [List.take_zero]
    exact .nil
  · rintro i m Hn ⟨rfl, ile, s, acc, hD, al, ha⟩
    have sv : Same (vis M H1) (vis M' Hn) := by
      rw [← hM']
      exact same_vis_or nD s
    have hidn : Hid M' Hn := by
      rw [← hM']
      exact hid_or (hid1.same s) hD
    by_cases c : i < xs.length
    · have hx : xs[i]? = some xs[i] := List.getElem?_eq_getElem c
      refine .inr ⟨it.go i Hn (sv.trans vis_sub) (by rw [List.length_map]; exact c), fun H' => Same H1 H' ∧ ∃ acc, H' D = some (.lst acc) ∧ acc.length ≤ i + 1 ∧ DpAll K (vis M' H') acc (((xs.take (i + 1)).filter p).map f), fun H' nx => ⟨_, by omega, rfl, c, nx⟩, fun x Hy y => ?_⟩
      obtain ⟨sy, dy⟩ := it.yl i Hn x Hy (td xs[i]) (sv.trans vis_sub) (by rw [List.getElem?_map, hx]; rfl) y
      have hdx := dy M' hidn sv
      obtain ⟨ρ', hg, ht, he⟩ := hb xs[i] (List.getElem_mem c)
      have en1 : EnvD K (vis M' Hy) (wipe σ vs) (wipeR ρ vs) := EnvD.wipe (en.same (((vis_same e1).trans sv).trans (vis_same sy))) vs
      refine hg M' (wipe σ vs) Hy x en1 hdx _ fun σ' en2 wq => ⟨wq.trans (hw σ), ?_⟩
      have hidy := hidn.same sy
      refine ht M' σ' Hy hidy en2 _ fun H3 e3 => ?_
      have s3 := sy.trans e3
      rw [outs_take (f := f) hx]
      cases b : p xs[i] with
      | false =>
        rw [if_neg Bool.false_ne_true, if_neg Bool.false_ne_true, List.append_nil]
        exact ⟨s.trans s3, acc, s3 _ _ hD, by omega, dpAll_same (vis_same s3) _ _ ha⟩
      | true =>
        rw [if_pos rfl, if_pos rfl]
        refine he b M' σ' H3 (hidy.same e3) (en2.same (vis_same e3)) _ fun u H4 e4 hu => ?_
        have s4 := s3.trans e4
        refine ⟨acc, s4 _ _ hD, Nat.lt_of_lt_of_le (by omega) hl, same_upd (s.trans s4) nD, acc ++ [u], upd_same, by rw [List.length_append, List.length_singleton]; omega, ?_⟩
        rw [vis_upd mD]
        exact dpAll_app (dpAll_same (vis_same s4) _ _ ha) (.cons hu .nil)
    · have e : i = xs.length := by omega
      subst e
      rw [List.take_length] at ha
      exact .inl ⟨it.st _ Hn (sv.trans vis_sub) (by rw [List.length_map]; exact Nat.le_refl _), fin Hn acc s hD ha⟩
theorem pl_map {α : Type} {xs : List α} {td : α → PyData} {j : Nat} (hi : PuI K wi ρ (xs.map td)) (hl : xs.length ≤ sizeLine) (f : α → PyData) (hb : ∀ x ∈ xs, PuE K te (ρ.set j (some (td x))) (f x)) {M : Addr → Bool} {σ : L2.St} {H : Hp} (hid : Hid M H) (en : EnvD K (vis M H) σ ρ) {Q : VK}
    (q : ∀ D Hn acc, Same H Hn → H D = none → Hn D = some (.lst acc) → DpAll K (vis (fun b => M b || b == D) Hn) acc (xs.map f) → Q (.ref D) Hn) : tLc wi (gName j) tYes te [j] σ H Q := by
  refine pl_lc (g := gName j) (vs := [j]) (tt := tYes) (te := te) hi hl (fun _ => true) f (fun x hx => ⟨_, pug_name j, pu_yes, fun _ => ?_⟩) (fun σ => wipe_one σ j) hid en fun D Hn acc a b c d => ?_
  · show PuE K te ((ρ.set j none).set j (some (td x))) (f x)
    rw [List.set_set]
    exact hb x hx
  · rw [List.filter_eq_self.mpr fun _ _ => rfl] at d
    exact q D Hn acc a b c d
theorem vis_le2 {M : Addr → Bool} {H : Hp} (D : Addr) : Same (vis (fun b => M b || b == D) H) (vis M H) := vis_or_same
/-- .. as data -/
theorem pu_map' {α : Type} {xs : List α} {td : α → PyData} {j : Nat} (hi : PuI K wi ρ (xs.map td)) (hl : xs.length ≤ sizeLine) (f : α → PyData) (hb : ∀ x ∈ xs, PuE K te (ρ.set j (some (td x))) (f x)) : PuE K (tLc wi (gName j) tYes te [j]) ρ (.list (xs.map f)) := fun M σ H hid en Q q =>
  pl_map hi hl f hb hid en fun D Hn acc e n hD ha => q (.ref D) Hn e (.lst (SqL.of (by unfold vis; rw [hid.non n, if_neg Bool.false_ne_true]; exact hD)) (dpAll_same (vis_le2 D) _ _ ha))
end
end Lm
set_option Elab.async false
set_option linter.all false
set_option maxRecDepth 100000
set_option maxHeartbeats 1000000
namespace Lm
open PySem PySem.Spec PyProof.Rows L2 LamX
theorem newcls_see {K : PySem.W.Frag} {M : Addr → Bool} {H H' : Hp} {p : Addr} (hid : Hid M H) (e : Same H H') : ∀ {ys : List V} {cs : List Cl}, Paired (NewCl K (upd H p (.lst [])) H') ys cs → (∀ q, upd H p (.lst []) q = none → H q = none) → DpAll K (vis M H') ys (cs.map Cl.toD)
  | _, _, .nil, _ => .nil
  | _, _, .cons h t, o => by
    refine .cons ?_ (newcls_see hid e t o)
    obtain ⟨t, a, b, xs, ys, h1, h2, h3, h4, h5⟩ := h
    exact NewCl.vis hid e ⟨t, a, b, xs, ys, h1, h2, o a h3, o b h4, h5⟩
theorem upd_nonX {H : Hp} {p q : Addr} {o : HO} (h : upd H p o q = none) : H q = none := by
  by_cases z : q = p
  · rw [z, upd_same] at h; cases h
  · rw [upd_ne z] at h; exact h
theorem tC_in {v : V} {σ : L2.St} {H : Hp} {Q : VK} (h : Q v H) : tC v σ H Q := h
theorem prV_open {K : PySem.W.Frag} {C : Addr} {H : Hp} : ∀ {n : Nat} {v : V} {p : Pr}, PrV K C H n v p → ∃ (a dx l : Addr) (vr vc : V), v = .ref a ∧ H a = some (.ins C dx (prF vr (.ref l) vc)) ∧ Dp K H vc p.c.toD
  | n + 1, v, p, ⟨a, dx, l, vr, vc, ws, h1, h2, h3, h4, h5, _⟩ => ⟨a, dx, l, vr, vc, h1, h2, h5⟩
theorem EnvD.off {K : PySem.W.Frag} {H : Hp} {σ : L2.St} {ρ : Rho} (h : EnvD K H σ ρ) {i : Nat} {v : V} (z : ρ[i]? = some none) : EnvD K H (σ.set i (some v)) ρ := by
  refine ⟨by rw [List.length_set]; exact h.1, fun j d hd => ?_⟩
  obtain ⟨u, au, du⟩ := h.2 j d hd
  refine ⟨u, ?_, du⟩
  by_cases y : i = j
  · subst y; rw [z] at hd; cases hd
  · rw [List.getElem?_set_ne y]; exact au
theorem hid_upd {M : Addr → Bool} {H : Hp} {p : Addr} {xs : List V} (h : Hid M H) (m : M p = true) : Hid M (upd H p (.lst xs)) := fun b c => by
  by_cases z : b = p
  · rw [z]; exact .inl ⟨xs, upd_same⟩
  · rcases h b c with ⟨x, q⟩ | ⟨x, q⟩
    · exact .inl ⟨x, (upd_ne z).trans q⟩
    · exact .inr ⟨x, (upd_ne z).trans q⟩
/-- what _searched tells, seen in G; what is new since H0 -/
def ResV (K : PySem.W.Frag) (C : Addr) (H0 G H' : Hp) (n : Nat) (v : V) : Res → Prop
  | .world ws => ∃ t l, v = .ref t ∧ SqT K G t [.str ("world" : Str), .ref l] ∧ H0 l = none ∧ H' l = some (.lst (ws.map V.int))
  | .proof p => ∃ t u, v = .ref t ∧ SqT K G t [.str ("proof" : Str), u] ∧ PrV K C G n u p
def spSearched (K : PySem.W.Frag) (C P0 : Addr) (n : Nat) : Sp := fun vs H Q _ => ∃ (M : Addr → Bool) (v : V) (c : Cl), vs = [v] ∧ Hid M H ∧ Dp K (vis M H) v c.toD ∧ CS c ∧ wordsC c < n ∧ wordsC c ≤ 60 ∧ Tabs (nextT P0) H ∧
  ∀ v' H', Grew (nextT P0) H H' → ResV K C H (vis M H') H' n v' (search n c) → Q v' H'
section
variable {P : Program} {w : World} {K : PySem.W.Frag} {mg : Str → Option Value} {base : Heap} {f : Addr} {fd : FuncData}
theorem scSearched : FnScope ["claim", "rule", "f", "inner", "asked", "word", "found"] ["claim"] (defScope sSearched) := ⟨rfl, rfl, rfl, by decide +kernel, rfl, by decide +kernel, by decide +kernel⟩
theorem ok_searched {C P0 fI : Addr} {fdI : FuncData} {n : Nat} (D : Df K mg "_searched" sSearched ["claim"] f fd) (PC : PCls K C) (MP : Mk K C fI) (GI : FnOk P w K mg base CX0 1 fI fdI ["self", "rule", "inner", "claim"] (spPInit C)) (bI : Binds K fdI ["self", "rule", "inner", "claim"] []) (mProof : mg "Proof" = some (.ref C))
    (h_next_rule : Has P w K mg base 17 "_next_rule" ["claim"] (spNext K P0)) (h_led_to : Has P w K mg base 3 "led_to" ["claim", "rule"] (spLed K)) (h_stands_in : Has P w K mg base 2 "stands_in" ["one", "other"] (spPu K 2 gStandsIn)) (h_rested_on : Has P w K mg base 1 "_rested_on" ["claim", "rule", "inner"] (spRested K C))
    (h_searched : Has P w K mg base (n + 17) "_searched" ["claim"] (spSearched K C P0 n)) : FnOk P w K mg base CX0 (n + 18) f fd ["claim"] (spSearched K C P0 (n + 1)) := by
  refine D.fn.ok scSearched (fun vs H Q E h => ?_) (fun cdv A outer s H vs Q E hr h => ?_)
  · obtain ⟨M, v, c, rfl, _⟩ := h
    rfl
  obtain ⟨M, v, c, rfl, hid, dv, cs, wn, w60, hT, q⟩ := h
  have hr17 : Room 17 (A.deeper (envOfC "_searched" (defScope sSearched) s.heap.objs.size f cdv)) := hr.mono (by omega)
  refine ⟨_, (pss_cons (ps_set (i := 1) scSearched.nd rfl (by first | exact Or.inl rfl | exact Or.inr rfl) (pe_callH h_next_rule (hr17.mono (by omega)) (by rfl) (pa_cons (pv 0) pa_nil)))
    (pss_cons (ps_if (pt_cmp (pc_isN (pv 1))) (pss_one (ps_ret (pe_tup (pa_cons pe_str (pa_cons (pe_lc (own := [("f", 2)]) (g := gName 2) (tt := tYes) rfl scSearched.nd (pi_list (pe_ix (r := rIxT K) ix_tup (pv 0) pe_int (fun _ _ => rfl))) (blkOk_by (N := ["claim", "rule", "f", "inner", "asked", "word", "found"]) (sc := defScope sSearched) (by decide +kernel)) (fun _ _ _ _ _ => (pg_name (i := 2) scSearched.nd rfl (by first | exact Or.inl rfl | exact Or.inr rfl))) (fun _ _ _ _ _ => pts_nil) (fun _ _ _ _ _ => (pe_ix (r := rIxT K) ix_tup (pv 2) pe_int (fun _ _ => rfl)))) pa_nil))))) pss_nil)
    (pss_cons (ps_set (i := 3) scSearched.nd rfl (by first | exact Or.inl rfl | exact Or.inr rfl) (pe_lst pa_nil))
    (pss_cons (ps_for PassesOwn.never rfl (pi_list (pe_callH h_led_to (hr17.mono (by omega)) (by rfl) (pa_cons (pv 0) (pa_cons (pv 1) pa_nil)))) (pg_name (i := 4) scSearched.nd rfl (by first | exact Or.inl rfl | exact Or.inr rfl)) (pss_cons (ps_asg (pe_callH h_searched hr (by rfl) (pa_cons (pv 4) pa_nil)) (pg_tup rfl (pgs_cons (pg_name (i := 5) scSearched.nd rfl (by first | exact Or.inl rfl | exact Or.inr rfl)) (pgs_cons (pg_name (i := 6) scSearched.nd rfl (by first | exact Or.inl rfl | exact Or.inr rfl)) pgs_nil))))
    (pss_cons (ps_if (PW.pt (pw_or (pt_cmpR op_eq (pv 5) pe_str (nomark _)) (pw_or1 (pt_val (pe_callH h_stands_in (hr17.mono (by omega)) (by rfl) (pa_cons (pe_fldK (K := K) rfl (pv 6) rfl) (pa_cons (pv 0) pa_nil))))))) (pss_one (ps_ret (pe_tup (pa_cons (pv 5) (pa_cons (pv 6) pa_nil))))) pss_nil)
    (pss_one (ps_expr (pe_bm PySem.F.plainAttrs_list PySem.F.slot_list_append PySem.F.type_list_append mt_append (pv 3) (pa_cons (pv 6) pa_nil)))))))
    (pss_one (ps_ret (pe_tup (pa_cons pe_str (pa_cons (pe_make MP GI (hr17.mono (by decide)) (by rfl) mProof bI .nil pass0 (pa_cons (pv 1) (pa_cons (pv 3) (pa_cons (pe_callH h_rested_on (hr17.mono (by decide)) (by rfl) (pa_cons (pv 0) (pa_cons (pv 1) (pa_cons (pv 3) pa_nil)))) pa_nil)))) pa_nil))))))))), ?_⟩
  have en := envD_start (N := ["claim", "rule", "f", "inner", "asked", "word", "found"]) (DpAll.cons dv .nil)
  have en : EnvD K (vis M H) (L2.start ["claim", "rule", "f", "inner", "asked", "word", "found"] [v]) [some c.toD, none, none, none, none, none, none] := en
  have a0 : (L2.start ["claim", "rule", "f", "inner", "asked", "word", "found"] [v])[0]? = some (some v) := rfl
  generalize L2.start ["claim", "rule", "f", "inner", "asked", "word", "found"] [v] = σ at en a0
  dsimp only [tSeq]
  have lw1 := words_len c.1
  have lw2 := words_len c.2
  have wce : wordsC c = wordsS c.1 + wordsS c.2 := rfl
  have len0 : σ.length = 7 := en.1
  refine ⟨v, a0, M, v, c, rfl, hid, dv, cs.gd, by omega, by omega, hT, fun v1 H1 g1 d1 => ?_⟩
  dsimp only [gName, tSeq]
  have en1 : EnvD K (vis M H1) (σ.set 1 (some v1)) [some c.toD, some (ruOD (nextRule c)), none, none, none, none, none] := (en.ext (ext_vis g1.ext)).put d1 1
  have hid1 := hid.ext g1.ext
  have b1 : (σ.set 1 (some v1))[1]? = some (some v1) := List.getElem?_set_self (by omega)
  generalize σ.set 1 (some v1) = σ1 at en1 b1 ⊢
  have len1 : σ1.length = 7 := en1.1
  have T0 : ∀ p, H1 p = none → H p = none := g1.nn
  refine ⟨v1, b1, decide (v1 = .non), rfl, ?_⟩
  cases e : nextRule c with
  | none =>
    rw [e] at d1 en1
    cases d1
    obtain ⟨z1, z2, z3⟩ := next_none e
    rw [decide_eq_true rfl]
    refine iteT ?_
    dsimp only [tRet, tTup, tCons]
    refine tC_in ?_
    refine pl_map (K := K) (xs := c.1) (td := Fm.toD) (pui_list (pu_ixT (pu_cl (pu_var (i := 0) rfl)) (pu_int 0) (cix0 c))) (sl1000 (by omega)) (fun f => .int (sgNo f)) (fun x hx => ?_) hid1 en1 fun D Hn acc eS nD hD da => ?_
    · cases x with
      | sg i => exact pu_ixT (ds := [.str ("sign" : Str), .int i]) (i := 1) (pu_var (i := 2) rfl) (pu_int 1) (tix1 _ _ _)
      | no g => exact absurd (z2 _ hx) (by simp [Fm.isSg])
      | bi b g k => exact absurd (z2 _ hx) (by simp [Fm.isSg])
    · have ev := dpAll_nums (ns := c.1.map sgNo) (by rw [List.map_map]; exact da)
      subst ev
      refine ⟨sl1000 (by show 2 ≤ 100000; decide), fun t nt => ?_⟩
      have gt : Grew (nextT P0) H (upd Hn t (.tup [V.str ("world" : Str), V.ref D])) := (g1.same eS).same (same_new nt _)
      refine q _ _ gt ?_
      rw [search, e]
      refine ⟨t, D, rfl, SqT.of ?_, T0 _ nD, (upd_ne (ne_of_none hD nt)).trans hD⟩
      unfold vis
      rw [hid.non (T0 _ (eS.free nt)), if_neg Bool.false_ne_true]
      exact upd_same
  | some wf =>
    obtain ⟨wd, g⟩ := wf
    rw [e] at d1 en1
    obtain ⟨hw, ft⟩ := next_some e
    obtain ⟨gf, df, fm⟩ := fit_good cs.gd hw ft
    have d1 : Dp K (vis M H1) v1 (.tuple [.str wd.txt, g.toD]) := d1
    obtain ⟨r, rs, rfl, _, _⟩ := dp_tupI d1
    rw [decide_eq_false (fun z : V.ref r = V.non => nomatch z)]
    refine iteF ?_
    have nsg : (wd = .left ∨ wd = .right) → g.isSg = false := fun y => by
      rcases y with rfl | rfl
      · have ft : (decide (g ∈ c.1) && !g.isSg) = true := ft
        rw [Bool.and_eq_true] at ft
        simpa using ft.2
      · have ft : (decide (g ∈ c.2) && !g.isSg) = true := ft
        rw [Bool.and_eq_true] at ft
        simpa using ft.2
    have sh1 : Sh c.1 := cs.gd.1.sh
    have sh2 : Sh c.2 := cs.gd.2.sh
    dsimp only [tNext, tSeq]
    refine ⟨sl1000 (by show 0 ≤ 100000; decide), fun p np => ?_⟩
    dsimp only [gName, tSeq]
    have nMp : M p = false := hid1.non np
    have hid2 := hid_or (hid1.same (same_new np _)) (upd_same (H := H1) (a := p) (o := .lst []))
    have sv2 : Same (vis M H1) (vis (fun b => M b || b == p) (upd H1 p (.lst []))) := same_vis_or np (same_new np _)
    have mp : (fun b => M b || b == p) p = true := by simp
    have leM : ∀ H', Same (vis (fun b => M b || b == p) H') (vis M H') := fun H' => vis_or_same
    generalize (fun b => M b || b == p) = M1 at hid2 sv2 mp leM
    have s3 : (σ1.set 3 (some (.ref p)))[3]? = some (some (.ref p)) := List.getElem?_set_self (by omega)
    have en2 : EnvD K (vis M1 (upd H1 p (.lst []))) (σ1.set 3 (some (.ref p))) [some c.toD, some (Ru.fm wd g).toD, none, none, none, none, none] := by
      have en1' := en1.same sv2
      refine ⟨by rw [List.length_set]; exact en1'.1, fun i d hd => ?_⟩
      obtain ⟨u, au, du⟩ := en1'.2 i d hd
      refine ⟨u, ?_, du⟩
      by_cases z : (3 : Nat) = i
      · subst z; cases hd
      · rw [List.getElem?_set_ne z]; exact au
    generalize σ1.set 3 (some (.ref p)) = σ2 at en2 s3 ⊢
    obtain ⟨vc, ac, dc⟩ := en2.2 0 _ rfl
    obtain ⟨vr, ar, dr⟩ := en2.2 1 _ rfl
    -- what is wanted
    refine ⟨vc, ac, vr, ar, M1, vc, vr, c, wd, g, rfl, hid2, dc, dr, sh1, sh2, by omega, by omega, by omega, nsg, fun pl ys H3 e3 npl hpl hys => ?_⟩
    have npp : pl ≠ p := fun z => by rw [z, upd_same] at npl; cases npl
    have hp3 : H3 p = some (.lst []) := e3 _ _ upd_same
    have n1 : ∀ b, H3 b = none → H1 b = none := fun b z => upd_nonX (e3.free z)
    have sH13 : Same H1 H3 := (same_new np _).trans e3
    have dys : DpAll K (vis M1 H3) ys ((led c wd g).map Cl.toD) := newcls_see hid2 e3 hys fun q z => upd_nonX z
    have ly : ys.length = (led c wd g).length := by have := dpAll_len dys; rwa [List.length_map] at this
    have l2 : (led c wd g).length ≤ 2 := by rw [led_len]; exact put_len
    have all : ∀ l ∈ led c wd g, CS l ∧ wordsC l < n ∧ wordsC l ≤ 60 := fun l hl => by
      have cl := led_CS cs hw ft hl
      rcases hw with rfl | hw
      · cases hl
      · have := led_words hw ft hl
        exact ⟨cl, by omega, by omega⟩
    refine ⟨pl, rfl, ⟨ys, SqL.of hpl⟩, fun i m σ' Hn => m = ys.length - i ∧ i ≤ ys.length ∧ Grew (nextT P0) H1 Hn ∧ Hid M1 Hn ∧ Hn pl = some (.lst ys) ∧ DpAll K (vis M1 Hn) ys ((led c wd g).map Cl.toD) ∧
      EnvD K (vis M1 Hn) σ' [some c.toD, some (Ru.fm wd g).toD, none, none, none, none, none] ∧ σ'[3]? = some (some (.ref p)) ∧ ∃ vs acc, Hn p = some (.lst vs) ∧ vs.length = i ∧ PrVs K C (vis M1 Hn) n vs acc ∧ (∀ q ∈ acc, GdC q.c ∧ q.c.1.length ≤ 900 ∧ q.c.2.length ≤ 900) ∧
        searchL (search n) c (led c wd g) [] = searchL (search n) c ((led c wd g).drop i) acc,
      ⟨_, rfl, Nat.zero_le _, .of (g1.tabs) sH13, hid2.same e3, hpl, dys, en2.same (vis_same e3), s3, [], [], hp3, rfl, ⟨rfl, fun i u q z => nomatch z⟩, fun q z => (nomatch z), rfl⟩, ?_⟩
    rintro i m σ' Hn ⟨rfl, ile, gn, hidn, hpln, dyn, enn, s3n, vs, acc, hpn, lvs, prs, gacc, sL⟩
    by_cases ci : i < ys.length
    · -- a turn
      have cl : i < (led c wd g).length := by omega
      refine .inr ⟨⟨ys, ys[i], SqL.of hpln, List.getElem?_eq_getElem ci⟩, fun σ' Hn => ys.length - (i + 1) = ys.length - (i + 1) ∧ (i + 1) ≤ ys.length ∧ Grew (nextT P0) H1 Hn ∧ Hid M1 Hn ∧ Hn pl = some (.lst ys) ∧ DpAll K (vis M1 Hn) ys ((led c wd g).map Cl.toD) ∧
        EnvD K (vis M1 Hn) σ' [some c.toD, some (Ru.fm wd g).toD, none, none, none, none, none] ∧ σ'[3]? = some (some (.ref p)) ∧ ∃ vs acc, Hn p = some (.lst vs) ∧ vs.length = (i + 1) ∧ PrVs K C (vis M1 Hn) n vs acc ∧ (∀ q ∈ acc, GdC q.c ∧ q.c.1.length ≤ 900 ∧ q.c.2.length ≤ 900) ∧
        searchL (search n) c (led c wd g) [] = searchL (search n) c ((led c wd g).drop (i + 1)) acc, fun σ' H' nx => ⟨_, by omega, nx⟩, fun x Hy y => ?_⟩
      obtain ⟨rfl, y⟩ := y
      have hx := y ys (SqL.of hpln)
      obtain ⟨d, hd, dx⟩ := dpAll_get dyn hx
      rw [List.getElem?_map, List.getElem?_eq_getElem cl] at hd
      cases hd
      obtain ⟨a1, a2, a3⟩ := all _ (List.getElem_mem cl)
      have dropE : (led c wd g).drop i = (led c wd g)[i] :: (led c wd g).drop (i + 1) := List.drop_eq_getElem_cons cl
      rw [dropE, searchL] at sL
      generalize (led c wd g)[i] = l at dx a1 a2 a3 sL
      have lenn : σ'.length = 7 := enn.1
      dsimp only [gName, tSeq]
      refine ⟨x, List.getElem?_set_self (by omega), M1, x, l, rfl, hidn, dx, a1, a2, a3, gn.tabs, fun v' Hm gm rv => ?_⟩
      have gM := gn.trans gm
      have hidm := hidn.ext gm.ext
      have hpm := gm.ext _ _ hpn (fun _ z => nomatch z)
      have hplm := gm.ext _ _ hpln (fun _ z => nomatch z)
      have enm := enn.ext (ext_vis gm.ext)
      have om : ∀ b, Hm b = none → H b = none := fun b z => T0 b (gM.nn b z)
      cases er : search n l with
      | world ws =>
        rw [er] at rv sL
        obtain ⟨t, lw, rfl, st, nlw, hlw⟩ := rv
        refine ⟨t, [V.str ("world" : Str), V.ref lw], rfl, sqT_ext (Ext_of vis_sub) st, rfl, ?_⟩
        dsimp only [gCons, gName, gNil, tSeq]
        refine ⟨_, _, rfl, _, _, rfl, rfl, ?_⟩
        have k5 : (((σ'.set 4 (some x)).set 5 (some (.str ("world" : Str)))).set 6 (some (.ref lw)))[5]? = some (some (.str ("world" : Str))) := by rw [List.getElem?_set_ne (by decide)]; exact List.getElem?_set_self (by rw [List.length_set]; omega)
        have k6 : (((σ'.set 4 (some x)).set 5 (some (.str ("world" : Str)))).set 6 (some (.ref lw)))[6]? = some (some (.ref lw)) := List.getElem?_set_self (by rw [List.length_set, List.length_set]; omega)
        generalize ((σ'.set 4 (some x)).set 5 (some (.str ("world" : Str)))).set 6 (some (.ref lw)) = σ3 at k5 k6 ⊢
        refine ⟨_, k5, rfl, _, rfl, ?_⟩
        rw [decide_eq_true rfl]
        refine iteT ?_
        refine iteT ?_
        refine ⟨_, k5, _, k6, sl1000 (by show 2 ≤ 100000; decide), fun z nz => ?_⟩
        refine q _ _ (g1.trans (gM.same (same_new nz _))) ?_
        rw [search, e]
        dsimp only at sL ⊢
        rw [sL]
        refine ⟨z, lw, rfl, SqT.of ?_, T0 _ (gn.nn _ nlw), (upd_ne (ne_of_none hlw nz)).trans hlw⟩
        unfold vis
        rw [hid.non (om _ nz), if_neg Bool.false_ne_true]
        exact upd_same
      | proof pr =>
        have szl := search_len n l pr a1 a2 er
        have rok := search_ok n l a1 a2
        rw [er] at rv sL rok
        obtain ⟨t, u, rfl, st, pv⟩ := rv
        obtain ⟨o, odx, ol, ovr, ovc, rfl, ho, hoc⟩ := prV_open pv
        have gpr : GdC pr.c := gd_subC a1.gd rok.2.1
        refine ⟨t, [V.str ("proof" : Str), V.ref o], rfl, sqT_ext (Ext_of vis_sub) st, rfl, ?_⟩
        dsimp only [gCons, gName, gNil, tSeq]
        refine ⟨_, _, rfl, _, _, rfl, rfl, ?_⟩
        have k3 : (((σ'.set 4 (some x)).set 5 (some (.str ("proof" : Str)))).set 6 (some (.ref o)))[3]? = some (some (.ref p)) := by rw [List.getElem?_set_ne (by decide), List.getElem?_set_ne (by decide), List.getElem?_set_ne (by decide)]; exact s3n
        have k5 : (((σ'.set 4 (some x)).set 5 (some (.str ("proof" : Str)))).set 6 (some (.ref o)))[5]? = some (some (.str ("proof" : Str))) := by rw [List.getElem?_set_ne (by decide)]; exact List.getElem?_set_self (by rw [List.length_set]; omega)
        have k6 : (((σ'.set 4 (some x)).set 5 (some (.str ("proof" : Str)))).set 6 (some (.ref o)))[6]? = some (some (.ref o)) := List.getElem?_set_self (by rw [List.length_set, List.length_set]; omega)
        have en3 := ((enm.off (i := 4) (v := x) rfl).off (i := 5) (v := .str ("proof" : Str)) rfl).off (i := 6) (v := .ref o) rfl
        generalize ((σ'.set 4 (some x)).set 5 (some (.str ("proof" : Str)))).set 6 (some (.ref o)) = σ3 at k3 k5 k6 en3 ⊢
        refine ⟨_, k5, rfl, _, rfl, ?_⟩
        rw [decide_eq_false (by decide +kernel)]
        refine iteF ?_
        obtain ⟨vc3, ac3, dc3⟩ := en3.2 0 _ rfl
        refine ⟨.ref o, k6, o, C, odx, _, ovc, rfl, vis_sub _ _ ho, PC.cl, PC.nc, prF_claim _ _ _, vc3, ac3, M1, [pr.c.toD, c.toD], .bool (decide (Sub pr.c c)), hidm, rfl, .cons hoc (.cons dc3 .nil), ⟨pr.c, c, rfl, ⟨gpr.1.sh, gpr.2.sh, by omega, by omega⟩, ⟨sh1, sh2, by omega, by omega⟩, rfl⟩, fun vb Hb eb db => ?_⟩
        cases db
        refine ⟨_, rfl, ?_⟩
        by_cases sb : Sub pr.c c
        · rw [decide_eq_true sb]
          refine iteT ?_
          refine ⟨_, k5, _, k6, sl1000 (by show 2 ≤ 100000; decide), fun z nz => ?_⟩
          have eb2 := eb.trans (same_new nz (.tup [V.str ("proof" : Str), V.ref o]))
          refine q _ _ (g1.trans (gM.same eb2)) ?_
          rw [search, e]
          dsimp only at sL ⊢
          rw [sL, if_pos sb]
          refine ⟨z, .ref o, rfl, SqT.of ?_, prV_up (prV_ext ((Ext_of (leM Hm)).trans (ext_vis (Ext_of eb2))) pv)⟩
          unfold vis
          rw [hid.non (om _ (eb.free nz)), if_neg Bool.false_ne_true]
          exact upd_same
        · rw [decide_eq_false sb]
          refine iteF ?_
          have hpb := eb _ _ hpm
          refine ⟨_, k3, .inl ⟨rfl, _, .inl (.inl hpb)⟩, _, k6, p, vs, .ref o, rfl, rfl, hpb, sl1001 (by omega), ?_⟩
          have eE : ExtN (vis M1 Hy) (vis M1 Hb) := ext_vis (gm.ext.trans (Ext_of eb))
          refine ⟨rfl, ci, (gM.same eb).upd hpb np, hid_upd (hidm.same eb) mp, (upd_ne npp).trans (eb _ _ hplm), ?_, ?_, k3, vs ++ [.ref o], acc ++ [pr], upd_same, by rw [List.length_append, List.length_singleton, lvs], ?_, fun y hy => ?_, ?_⟩
          · rw [vis_upd mp]; exact dpAll_ext eE _ _ dyn
          · rw [vis_upd mp]; exact en3.same (vis_same eb)
          · rw [vis_upd mp]; exact prVs_snoc (prVs_ext eE prs) (prV_ext (ext_vis (Ext_of eb)) pv)
          · rcases List.mem_append.mp hy with hy | hy
            · exact gacc y hy
            · rw [List.mem_singleton.mp hy]
              exact ⟨gpr, by omega, by omega⟩
          · dsimp only at sL
            rw [if_neg sb] at sL
            exact sL
    · -- all are shown
      have ie : i = ys.length := by omega
      subst ie
      refine .inl ⟨⟨ys, SqL.of hpln, Nat.le_refl _⟩, ?_⟩
      rw [ly, List.drop_length, searchL] at sL
      have la : acc.length ≤ 2 := by have := prs.1; omega
      obtain ⟨vce, ace, dce⟩ := enn.2 0 _ rfl
      obtain ⟨vre, are, dre⟩ := enn.2 1 _ rfl
      dsimp only [tRet, tTup, tCons]
      refine tC_in ?_
      refine ⟨vre, are, .ref p, s3n, vce, ace, vre, are, .ref p, s3n, M1, n, vce, vre, p, vs, c, wd, g, acc, rfl, hidn, dce, dre, hpn, prs, ⟨sh1, sh2, by omega, by omega⟩, by omega, by omega, fun y hy => ⟨(gacc y hy).1.1.sh, (gacc y hy).1.2.sh⟩, fun vq Hq eq dq => ?_⟩
      intro x dx nx ndx ne
      refine ⟨x, dx, vre, .ref p, vq, rfl, upd_same, rfl, ?_⟩
      rw [upd_upd]
      refine ⟨sl1000 (by show 2 ≤ 100000; decide), fun t nt => ?_⟩
      have e5 : Same Hq (upd (upd Hq dx (.own x)) x (.ins C dx (prF vre (.ref p) vq))) := (same_new ndx _).trans (same_new (by rw [upd_ne ne.symm]; exact nx) _)
      have e6 := e5.trans (same_new nt (.tup [V.str ("proof" : Str), V.ref x]))
      have hx6 : upd (upd (upd Hq dx (.own x)) x (.ins C dx (prF vre (.ref p) vq))) t (.tup [V.str ("proof" : Str), V.ref x]) x = some (.ins C dx (prF vre (.ref p) vq)) := (upd_ne (ne_of_none upd_same nt)).trans upd_same
      have gq := gn.same eq
      have oq : ∀ b, Hq b = none → H b = none := fun b z => T0 b (gq.nn b z)
      have nMx := hid.non (oq _ nx)
      have nMt := hid.non (oq _ (e5.free nt))
      refine q _ _ (g1.trans (gq.same e6)) ?_
      rw [search, e]
      dsimp only
      rw [sL]
      have see : ∀ {b : Addr} {o : HO} {G : Hp}, M b = false → G b = some o → vis M G b = some o := fun hb h => by unfold vis; rw [hb, if_neg Bool.false_ne_true]; exact h
      have eG : ∀ {G G' : Hp}, Same G G' → ExtN (vis M1 G) (vis M G') := fun {G G'} k => (Ext_of (leM G)).trans (ext_vis (Ext_of k))
      refine ⟨t, .ref x, rfl, SqT.of (see nMt upd_same), x, dx, p, vre, vq, vs, rfl, see nMx hx6, see nMp (e6 _ _ (eq _ _ hpn)), dp_ext (eG (eq.trans e6)) _ _ dre, dp_ext (eG e6) _ _ dq, prs.1, fun i u z h1 h2 => prV_ext (eG (eq.trans e6)) (prs.2 i u z h1 h2)⟩
theorem all_searched {C P0 fI : Addr} {fdI : FuncData} (D : Df K mg "_searched" sSearched ["claim"] f fd) (PC : PCls K C) (MP : Mk K C fI) (GI : FnOk P w K mg base CX0 1 fI fdI ["self", "rule", "inner", "claim"] (spPInit C)) (bI : Binds K fdI ["self", "rule", "inner", "claim"] []) (mProof : mg "Proof" = some (.ref C))
    (h_next_rule : Has P w K mg base 17 "_next_rule" ["claim"] (spNext K P0)) (h_led_to : Has P w K mg base 3 "led_to" ["claim", "rule"] (spLed K)) (h_stands_in : Has P w K mg base 2 "stands_in" ["one", "other"] (spPu K 2 gStandsIn)) (h_rested_on : Has P w K mg base 1 "_rested_on" ["claim", "rule", "inner"] (spRested K C)) : ∀ n : Nat, Has P w K mg base (n + 17) "_searched" ["claim"] (spSearched K C P0 n)
  | 0 => by
    have no : ∀ vs H Q E, ¬ spSearched K C P0 0 vs H Q E := fun vs H Q E h => by
      obtain ⟨M, v, c, _, _, _, _, z, _⟩ := h
      omega
    exact D.has ⟨fun vs H Q E h => absurd h (no vs H Q E), fun A outer s H args us vs Q E _ _ _ _ h => absurd h (no vs H Q E)⟩
  | n + 1 => D.has (ok_searched D PC MP GI bI mProof h_next_rule h_led_to h_stands_in h_rested_on (all_searched D PC MP GI bI mProof h_next_rule h_led_to h_stands_in h_rested_on n))
end
end Lm
set_option Elab.async false
set_option linter.all false
set_option maxRecDepth 100000
set_option maxHeartbeats 1000000
/-! list * int, wherever the list comes from; shapes of data -/
namespace Lm
open PySem PySem.Spec PyProof.Rows L2
theorem list_mulW (l : Addr) (items : Array Value) (n : Nat) (dd : Option Addr) (sl : Array (Option Value)) (x : Int) (u : Tok) (hc0 : ¬(!Builtin.List.listFitsIndex x) = true) (hc1 : ¬items.size * x.toNat > (2 ^ 63 - 1) / 8) (hc2 : ¬Builtin.List.listTooLong (items.size * x.toNat) = true) :
    Meets (Builtin.«list.__mul__» ⟨[.ref l, .int x u], []⟩) (fun _ R s => s.heap.get? l = some { cls := .type "list", dict := dd, data := .seq items n, slots := sl } ∧ R (.ok (.ret (Value.ref s.heap.objs.size))) { s with heap := s.heap.push { cls := Value.type "list", data := Data.seq (List.foldl (fun x1 x2 => x1 ++ x2) #[] (List.replicate (if items.isEmpty = true then 0 else x.toNat) items)) }, toks := s.toks }) :=
  .of_wp fun prog w A R s h => by
    obtain ⟨hp, g, d, tk, os⟩ := s; obtain ⟨hl, h⟩ := h
    have hsz := AutoListH.joined_fits hc2
    have f1 := AutoSeq1.idx_int; have f2 := AutoSeq1.sub_tuple_tuple; have f3 := AutoSeq1.sub_list_list; have f4 := AutoSeq1.sub_tuple_list; have f5 := AutoSeq1.sub_list_tuple
    wp_walk using wpAny_loadPart' hl; refine wpAny_ite_false (decide_eq_false (Nat.not_lt.mpr hsz)) ?_; wp_walk; exact ⟨_, rfl, h⟩
theorem int_rmulW (a : Int) (t : Tok) (l : Addr) (items : Array Value) (n : Nat) (dd : Option Addr) (sl : Array (Option Value)) :
    Meets (Builtin.«int.__rmul__» ⟨[.int a t, .ref l], []⟩) (fun _ R s => s.heap.get? l = some { cls := .type "list", dict := dd, data := .seq items n, slots := sl } ∧ R (.ok (.ret Value.notImplemented)) s) :=
  .of_wp fun prog w A R s h => by obtain ⟨hp, g, d, tk, os⟩ := s; obtain ⟨hl, h⟩ := h; wp_walk; exact ⟨_, rfl, h⟩
section
variable {X : Cx}
def rRepL (K : PySem.W.Frag) : R2 := fun x y H Q => ∃ l k xs, x = .ref l ∧ y = .int k ∧ SqL K H l xs ∧ -(2 ^ 63) ≤ k ∧ k < 2 ^ 63 ∧ xs.length * k.toNat ≤ sizeLine ∧ ∀ p, H p = none → Q (.ref p) (upd H p (.lst (List.replicate k.toNat xs).flatten))
theorem op_repL : OpR X (binaryOp .Mult) (rRepL X.K) := by
  intro pins s σ H x y v u Q I rx ry h
  obtain ⟨l, k, xs, rfl, rfl, hH, h1, h2, hz, q⟩ := h
  cases rx
  obtain ⟨t, rfl⟩ := ry
  obtain ⟨its, r, ⟨⟨c1, d1, a1, s1⟩, n, e, e1, e2, e3⟩, _⟩ := I.list hH
  dsimp only at e1 e2 e3
  subst e1 e2 e3
  have hl := r.length
  have hlen : its.toArray.size * k.toNat ≤ sizeLine := by rw [List.size_toArray, ← hl]; exact hz
  have hcap : ¬ its.toArray.size * k.toNat > (2 ^ 63 - 1) / 8 := by
    have : (sizeLine : Nat) ≤ (2 ^ 63 - 1) / 8 := by decide
    omega
  have hfit : ¬ (!Builtin.List.listFitsIndex k) = true := by
    rw [fitsIndex_both h1 h2]
    exact Bool.false_ne_true
  have hlong : ¬ Builtin.List.listTooLong (its.toArray.size * k.toNat) = true := by
    rw [notLongL hlen]
    exact Bool.false_ne_true
  have hnew : List.foldl (fun x1 x2 => x1 ++ x2) #[] (List.replicate (if its.toArray.isEmpty = true then 0 else k.toNat) its.toArray) = (List.replicate k.toNat its).flatten.toArray := by
    have f0 : ∀ m : Nat, List.foldl (fun x1 x2 => x1 ++ x2) #[] (List.replicate m its.toArray) = (List.replicate m its).flatten.toArray := fun m => by
      have := foldl_rep its m []
      rw [List.nil_append] at this
      exact this
    rw [f0]
    cases its with
    | nil => simp
    | cons a r' => rw [if_neg (by simp)]
  refine wpAny_binaryOp_repeat_ref (T := "list") (U := "int") (by decide) ⟨_, e, rfl⟩ (fun s' => typeIs_int s' k t) noFill_list_mul F.fills_int_mul F.slot_int_rmul repeat_list F.slot_int_index.lookup
    (call_meets F.slot_int_rmul (typeIs_int s k t) F.entry_int_rmul (F.args_int_rmul_2 _ _) (int_rmulW k t l its.toArray n _ _)
      ⟨e, rfl, ⟨_, e, rfl⟩, call_meets F.slot_list_mul ⟨_, e, rfl⟩ F.entry_list_mul (F.args_list_mul_2 _ _) (list_mulW l its.toArray n _ _ k t hfit hcap hlong) ⟨e, ?_⟩⟩)
  rw [hnew]
  exact ⟨.ref _, _, I.lnew (t' := s.toks) (r.rep k.toNat) (by rw [PyProof.Rows.lm_len_rep_flat, Nat.mul_comm]; exact hz), rfl, q _ I.fresh⟩
end
theorem dpAll_rep {K : PySem.W.Frag} {H : Hp} {vs : List V} {ds : List PyData} (h : DpAll K H vs ds) : ∀ m : Nat, DpAll K H (List.replicate m vs).flatten (List.replicate m ds).flatten
  | 0 => .nil
  | m + 1 => by
    rw [List.replicate_succ, List.replicate_succ, List.flatten_cons, List.flatten_cons]
    exact dpAll_app h (dpAll_rep h m)
theorem pu_rep {K : PySem.W.Frag} {ρ : Rho} {ta tb : TE} {ds : List PyData} {k : Int} (h1 : PuE K ta ρ (.list ds)) (h2 : PuE K tb ρ (.int k)) (k0 : -(2 ^ 63) ≤ k) (k1 : k < 2 ^ 63) (hl : ds.length * k.toNat ≤ 100000) : PuE K (tOp (rRepL K) ta tb) ρ (.list (List.replicate k.toNat ds).flatten) := fun M σ H hid en Q q =>
  h1 M σ H hid en _ fun v H1 e1 hv => h2 M σ H1 (hid.same e1) (en.same (vis_same e1)) _ fun u H2 e2 hu => by
    obtain ⟨a, vs, rfl, hs, ha⟩ := dp_lstI (dp_same (vis_same e2) _ _ hv)
    refine ⟨a, k, vs, rfl, dp_intI hu, vis_sub.seq hs, k0, k1, sl1000 (by rw [dpAll_len ha]; exact hl), fun p np => ?_⟩
    exact q (.ref p) _ ((e1.trans e2).trans (same_new np _)) (.lst (SqL.of (vis_new (hid.same (e1.trans e2)) np)) (dpAll_same (vis_same (same_new np _)) _ _ (dpAll_rep ha _)))
/-! ### shapes -/
def Shp (n : Nat) (d : PyData) : Prop := d.canLay0 = true ∧ d.depth ≤ n
theorem Shp.mono {n m : Nat} {d : PyData} (h : Shp n d) (l : n ≤ m) : Shp m d := ⟨h.1, Nat.le_trans h.2 l⟩
theorem shp_int (i : Int) : Shp 0 (.int i) := ⟨rfl, Nat.le_refl _⟩
theorem shp_non : Shp 0 .none := ⟨rfl, Nat.le_refl _⟩
theorem shp_bl (b : Bool) : Shp 0 (.bool b) := ⟨rfl, Nat.le_refl _⟩
theorem shp_str {x : Str} (h : PyData.canLay0 (.str x) = true) : Shp 0 (.str x) := ⟨h, Nat.le_refl _⟩
theorem shp_all : ∀ {n : Nat} {ds : List PyData}, (∀ d ∈ ds, Shp n d) → PyData.canLayAll0 ds = true ∧ PyData.depthAll ds ≤ n
  | n, [], _ => ⟨rfl, Nat.zero_le _⟩
  | n, d :: ds, h => by
    obtain ⟨a, b⟩ := shp_all fun x hx => h x (List.mem_cons_of_mem _ hx)
    obtain ⟨c, e⟩ := h d List.mem_cons_self
    refine ⟨?_, ?_⟩
    · show (PyData.canLay0 d && PyData.canLayAll0 ds) = true
      rw [c, a]; rfl
    · show max (PyData.depth d) (PyData.depthAll ds) ≤ n
      omega
theorem shp_lst {n : Nat} {ds : List PyData} (h : ∀ d ∈ ds, Shp n d) : Shp (n + 1) (.list ds) := ⟨(shp_all h).1, Nat.succ_le_succ (shp_all h).2⟩
theorem shp_tup {n : Nat} {ds : List PyData} (h : ∀ d ∈ ds, Shp n d) : Shp (n + 1) (.tuple ds) := ⟨(shp_all h).1, Nat.succ_le_succ (shp_all h).2⟩
theorem Shp.ok {n : Nat} {d : PyData} (h : Shp n d) (l : n ≤ 64) : SeqAt.shaped d = true := by
  show (d.canLay0 && decide (d.depth ≤ 64)) = true
  rw [h.1, Bool.true_and]
  exact decide_eq_true (Nat.le_trans h.2 l)
theorem Shp.refl {n : Nat} {d : PyData} (h : Shp n d) : PyData.eqv d d = true := SeqAt.eqv_refl _ h.1
theorem shp_fm {n : Nat} (f : Fm) (h : f.dep ≤ n) : Shp n f.toD := ⟨Fm.toD_lay f, by rw [Fm.toD_depth]; exact h⟩
end Lm
set_option Elab.async false
set_option linter.all false
set_option maxRecDepth 100000
set_option maxHeartbeats 400000
/-! what the laws draw: mathematics -/
namespace Lm
open PySem PySem.Spec PyProof.Rows L2
def intsD (ns : List Int) : PyData := .list (ns.map PyData.int)
def cellN (ns : List Int) (k : Int) : Int := if k < (ns.length : Int) then (atI ns k).getD 0 else 0
def firstN (ns : List Int) : Int := cellN ns 0 * 48271 % 1000003
def tabN (b : Int) : Int := (atI [37, 10, 37, 1, 20, 37] (b / 100 % 6)).getD 0
def countN (b : Int) : Int := (atI [4, 4, 40, 4, 5, 40] (b / 100 % 6)).getD 0
def signN (k b : Int) : Int := (b + tabN b * (k % countN b)) % 100
def bwN (z : Int) : Bw := if z % 3 = 0 then .an else if z % 3 = 1 then .o else .th
def formN : Nat → Int → Int → Fm
  | 0, c, b => .sg (signN (c / 8) b)
  | n + 1, c, b => if c % 8 < 3 then .sg (signN (c / 8) b) else if c % 8 = 3 then .no (formN n (c / 8 * 48271 % 65537) b)
      else .bi (bwN c) (formN n (c / 8 * 48271 % 65537) b) (formN n (c / 8 * 16807 % 65539) b)
theorem six_of (z : Int) : ∃ j : Nat, j < 6 ∧ z % 6 = (j : Int) := ⟨(z % 6).toNat, by have := Int.emod_lt_of_pos z (by decide : (0 : Int) < 6); have := Int.emod_nonneg z (by decide : (6 : Int) ≠ 0); omega, by have := Int.emod_nonneg z (by decide : (6 : Int) ≠ 0); omega⟩
theorem atI_get' {α : Type} {xs : List α} {j : Nat} (h : j < xs.length) : atI xs (j : Int) = some xs[j] := atI_nat (List.getElem?_eq_getElem h)
theorem countN_at (b : Int) : atI [4, 4, 40, 4, 5, 40] (b / 100 % 6) = some (countN b) ∧ 4 ≤ countN b ∧ countN b ≤ 40 := by
  obtain ⟨j, hj, e⟩ := six_of (b / 100)
  unfold countN
  rw [e]
  match j, hj with
  | 0, _ => exact ⟨rfl, by decide, by decide⟩
  | 1, _ => exact ⟨rfl, by decide, by decide⟩
  | 2, _ => exact ⟨rfl, by decide, by decide⟩
  | 3, _ => exact ⟨rfl, by decide, by decide⟩
  | 4, _ => exact ⟨rfl, by decide, by decide⟩
  | 5, _ => exact ⟨rfl, by decide, by decide⟩
theorem tabN_at (b : Int) : atI [37, 10, 37, 1, 20, 37] (b / 100 % 6) = some (tabN b) ∧ -(2 ^ 64) < tabN b ∧ tabN b < 2 ^ 64 := by
  obtain ⟨j, hj, e⟩ := six_of (b / 100)
  unfold tabN
  rw [e]
  match j, hj with
  | 0, _ => exact ⟨rfl, by decide, by decide⟩
  | 1, _ => exact ⟨rfl, by decide, by decide⟩
  | 2, _ => exact ⟨rfl, by decide, by decide⟩
  | 3, _ => exact ⟨rfl, by decide, by decide⟩
  | 4, _ => exact ⟨rfl, by decide, by decide⟩
  | 5, _ => exact ⟨rfl, by decide, by decide⟩
theorem bwN_at (z : Int) : atI [PyData.str ("and" : Str), PyData.str ("or" : Str), PyData.str ("then" : Str)] (z % 3) = some (.str (bwN z).txt) := by
  have h0 := Int.emod_nonneg z (by decide : (3 : Int) ≠ 0)
  have h1 := Int.emod_lt_of_pos z (by decide : (0 : Int) < 3)
  unfold bwN
  by_cases a : z % 3 = 0
  · rw [if_pos a, a]; rfl
  · by_cases b : z % 3 = 1
    · rw [if_neg a, if_pos b, b]; rfl
    · rw [if_neg a, if_neg b, show z % 3 = 2 by omega]; rfl
theorem signN_ok (k b : Int) : 0 ≤ signN k b ∧ signN k b ≤ 99 := by
  unfold signN
  have h0 := Int.emod_nonneg (b + tabN b * (k % countN b)) (by decide : (100 : Int) ≠ 0)
  have h1 := Int.emod_lt_of_pos (b + tabN b * (k % countN b)) (by decide : (0 : Int) < 100)
  omega
theorem formN_good : ∀ (n : Nat) (c b : Int), (formN n c b).good
  | 0, c, b => signN_ok _ _
  | n + 1, c, b => by
    rw [formN]
    split
    · exact signN_ok _ _
    · split
      · exact formN_good n _ b
      · exact ⟨formN_good n _ b, formN_good n _ b⟩
theorem formN_dep : ∀ (n : Nat) (c b : Int), (formN n c b).dep ≤ n + 1
  | 0, c, b => Nat.le_refl 1
  | n + 1, c, b => by
    rw [formN]
    split
    · show 1 ≤ n + 1 + 1; omega
    · split
      · have := formN_dep n (c / 8 * 48271 % 65537) b
        show (formN n (c / 8 * 48271 % 65537) b).dep + 1 ≤ n + 1 + 1
        omega
      · have h1 := formN_dep n (c / 8 * 48271 % 65537) b
        have h2 := formN_dep n (c / 8 * 16807 % 65539) b
        show max (formN n (c / 8 * 48271 % 65537) b).dep (formN n (c / 8 * 16807 % 65539) b).dep + 1 ≤ n + 1 + 1
        omega
/-- the law's own wants -/
def lwants (c : Cl) : Ru → Option (List Cl)
  | .more m => if Sub m c then some [m] else none
  | .fm .lem f => some [(once c.1, once (once c.2 ++ [f])), (once (once c.1 ++ [f]), once c.2)]
  | .fm .same f => if f ∈ once c.1 ∧ f ∈ once c.2 then some [] else none
  | .fm .left f => if f ∈ once c.1 ∧ f.isSg = false then some ((putL f).map fun p => (once (without (once c.1) f ++ p.1), once (once c.2 ++ p.2))) else none
  | .fm .right f => if f ∈ once c.2 ∧ f.isSg = false then some ((putR f).map fun p => (once (once c.1 ++ p.1), once (without (once c.2) f ++ p.2))) else none
def optD : Option (List Cl) → PyData
  | none => .none
  | some cs => .list (cs.map Cl.toD)
end Lm
set_option Elab.async false
set_option linter.all false
set_option maxRecDepth 100000
set_option maxHeartbeats 400000
/-! the chains that the laws draw: mathematics -/
namespace Lm
open PySem PySem.Spec PyProof.Rows L2
theorem without_once (L : List Fm) (f : Fm) : without (once L) f = once (without L f) := (once_filter _ L).symm
theorem once_appW (A B : List Fm) : once (once A ++ B) = once (A ++ B) := once_app A B
theorem lwants_eq {c : Cl} {v : Wd} {g : Fm} : lwants c (.fm v g) = if fits c (.fm v g) = true then some (wants c (.fm v g)) else none := by
  cases v with
  | same =>
    show (if g ∈ once c.1 ∧ g ∈ once c.2 then some [] else none) = if (decide (g ∈ c.1) && decide (g ∈ c.2)) = true then some [] else none
    by_cases h : g ∈ c.1 ∧ g ∈ c.2
    · rw [if_pos ⟨mem_once.mpr h.1, mem_once.mpr h.2⟩, decide_eq_true h.1, decide_eq_true h.2]
      rfl
    · rw [if_neg fun z => h ⟨mem_once.mp z.1, mem_once.mp z.2⟩, if_neg]
      rw [Bool.and_eq_true, decide_eq_true_eq, decide_eq_true_eq]
      exact h
  | lem =>
    show some [(once c.1, once (once c.2 ++ [g])), (once (once c.1 ++ [g]), once c.2)] = some [(once (c.1 ++ []), once (c.2 ++ [g])), (once (c.1 ++ [g]), once (c.2 ++ []))]
    rw [once_app, once_app, List.append_nil, List.append_nil]
  | left =>
    show (if g ∈ once c.1 ∧ g.isSg = false then some ((putL g).map fun p => (once (without (once c.1) g ++ p.1), once (once c.2 ++ p.2))) else none) = if (decide (g ∈ c.1) && !g.isSg) = true then some ((putL g).map fun p => (once (without c.1 g ++ p.1), once (c.2 ++ p.2))) else none
    have e : ((putL g).map fun p => (once (without (once c.1) g ++ p.1), once (once c.2 ++ p.2))) = (putL g).map fun p => (once (without c.1 g ++ p.1), once (c.2 ++ p.2)) := List.map_congr_left fun p _ => by rw [without_once, once_app, once_app]
    rw [e]
    by_cases h : g ∈ c.1 ∧ g.isSg = false
    · rw [if_pos ⟨mem_once.mpr h.1, h.2⟩, decide_eq_true h.1, h.2]
      rfl
    · rw [if_neg fun z => h ⟨mem_once.mp z.1, z.2⟩, if_neg]
      rw [Bool.and_eq_true, decide_eq_true_eq, Bool.not_eq_true']
      exact h
  | right =>
    show (if g ∈ once c.2 ∧ g.isSg = false then some ((putR g).map fun p => (once (once c.1 ++ p.1), once (without (once c.2) g ++ p.2))) else none) = if (decide (g ∈ c.2) && !g.isSg) = true then some ((putR g).map fun p => (once (c.1 ++ p.1), once (without c.2 g ++ p.2))) else none
    have e : ((putR g).map fun p => (once (once c.1 ++ p.1), once (without (once c.2) g ++ p.2))) = (putR g).map fun p => (once (c.1 ++ p.1), once (without c.2 g ++ p.2)) := List.map_congr_left fun p _ => by rw [without_once, once_app, once_app]
    rw [e]
    by_cases h : g ∈ c.2 ∧ g.isSg = false
    · rw [if_pos ⟨mem_once.mpr h.1, h.2⟩, decide_eq_true h.1, h.2]
      rfl
    · rw [if_neg fun z => h ⟨mem_once.mp z.1, z.2⟩, if_neg]
      rw [Bool.and_eq_true, decide_eq_true_eq, Bool.not_eq_true']
      exact h
theorem lwants_more {c m : Cl} : lwants c (.more m) = if fits c (.more m) = true then some [m] else none := by
  show (if Sub m c then some [m] else none) = if decide (Sub m c) = true then some [m] else none
  by_cases h : Sub m c
  · rw [if_pos h, decide_eq_true h, if_pos rfl]
  · rw [if_neg h, decide_eq_false h, if_neg (by decide)]

/-- a line as drawn -/
structure Ln where
  c : Cl
  r : Ru
  u : List Int
def Ln.toD (l : Ln) : PyData := .tuple [l.c.toD, l.r.toD, intsD l.u]
def Ru.kept : Ru → Prop
  | .fm _ f => f.good ∧ f.dep ≤ 12
  | .more m => GdC m ∧ wordsC m ≤ 24
structure LnOk (l : Ln) : Prop where
  gc : GdC l.c
  wc : wordsC l.c ≤ 24
  rk : l.r.kept
theorem Ru.kept.ok {r : Ru} (h : r.kept) : r.ok := by
  cases r with
  | fm w f => exact h
  | more m => exact ⟨h.1, Nat.le_trans h.2 (by decide)⟩
def getF (L : List Fm) (i : Int) : Fm := (atI L i).getD (.sg 0)
theorem getF_at {L : List Fm} {i : Int} (h0 : 0 ≤ i) (h : i < (L.length : Int)) : atI L i = some (getF L i) ∧ getF L i ∈ L := by
  obtain ⟨j, rfl⟩ := Int.eq_ofNat_of_zero_le h0
  have hj : j < L.length := by omega
  have e : atI L (j : Int) = some L[j] := atI_nat (List.getElem?_eq_getElem hj)
  unfold getF
  rw [e]
  exact ⟨rfl, List.getElem_mem hj⟩
theorem getF_mod {L : List Fm} (h : L ≠ []) (i : Int) : atI L (i % (L.length : Int)) = some (getF L (i % (L.length : Int))) ∧ getF L (i % (L.length : Int)) ∈ L := by
  have hl : (0 : Int) < (L.length : Int) := by
    have := List.length_pos_iff.mpr h
    omega
  exact getF_at (Int.emod_nonneg _ (by omega)) (Int.emod_lt_of_pos _ hl)
def oneN (L R : List Fm) (kind more : Int) : Cl × Wd × Fm :=
  let a := getF L (more % L.length)
  let b := getF R (more / 2 % R.length)
  if kind = 2 then ((without L a, once (R ++ [.no a])), .right, .no a)
  else if kind = 3 then ((once (L ++ [.no b]), without R b), .left, .no b)
  else if kind = 4 then ((L, once (without (without R b) (getF R (more / 3 % R.length)) ++ [.bi .o b (getF R (more / 3 % R.length))])), .right, .bi .o b (getF R (more / 3 % R.length)))
  else if kind = 5 then ((once (without (without L a) (getF L (more / 3 % L.length)) ++ [.bi .an a (getF L (more / 3 % L.length))]), R), .left, .bi .an a (getF L (more / 3 % L.length)))
  else ((without L a, once (without R b ++ [.bi .th a b])), .right, .bi .th a b)
def twoN (p q : Cl) (kind more : Int) : Cl × Wd × Fm :=
  let a := getF p.1 (more % p.1.length)
  let b := getF p.2 (more / 2 % p.2.length)
  let c := getF q.1 (more / 3 % q.1.length)
  let d := getF q.2 (more / 5 % q.2.length)
  if 7 < kind then ((once (p.1 ++ q.1), once (without p.2 b ++ q.2)), .lem, b)
  else if more % 3 = 0 then ((once (p.1 ++ q.1), once (without p.2 b ++ (without q.2 d ++ [.bi .an b d]))), .right, .bi .an b d)
  else if more % 3 = 1 then ((once (without p.1 a ++ (without q.1 c ++ [.bi .o a c])), once (p.2 ++ q.2)), .left, .bi .o a c)
  else ((once (p.1 ++ (without q.1 c ++ [.bi .th b c])), once (without p.2 b ++ q.2)), .left, .bi .th b c)
def nilC : Cl := ([], [])
def clAt (ls : List Ln) (k : Nat) : Cl := (ls[k]?.map Ln.c).getD nilC
/-- the lines that tell what is wanted of the lines used, beside the places -/
def placesN : List (Nat × Cl) → List Ln → List Int → List Ln × List Int
  | [], ls, ps => (ls, ps)
  | (k, w) :: r, ls, ps => if Sub w (clAt ls k) then placesN r ls (ps ++ [(k : Int)]) else placesN r (ls ++ [⟨w, .more (clAt ls k), [(k : Int)]⟩]) (ps ++ [(ls.length : Int)])
def tooMany (ws : List Cl) (c : Cl) (f : Fm) : Prop := (∃ x ∈ ws ++ [c], 24 < wordsC x) ∨ 12 < f.dep
instance (ws : List Cl) (c : Cl) (f : Fm) : Decidable (tooMany ws c f) := by unfold tooMany; exact inferInstance
def restN (ls : List Ln) (c : Cl) (w : Wd) (f : Fm) (uses : List Nat) : List Ln :=
  match lwants c (.fm w f) with
  | none => ls
  | some ws => if tooMany ws c f then ls else if ¬ ∀ p ∈ uses.zip ws, Sub (clAt ls p.1) p.2 then ls
      else (placesN (uses.zip ws) ls []).1 ++ [⟨c, .fm w f, (placesN (uses.zip ws) ls []).2⟩]
def repB (f : Fm) (k : Int) : List Fm := List.replicate k.toNat f
def grownN (ls : List Ln) (cell base : Int) : List Ln :=
  let more := cell / 10
  let at_ := ((ls.length : Int) - 1 - more % (if 3 < (ls.length : Int) then 3 else (ls.length : Int))).toNat
  let at2 := (more / 7 % (ls.length : Int)).toNat
  let p := clAt ls at_
  let q := clAt ls at2
  let kind := cell % 10
  if kind < 1 ∨ (p.1 = [] ∨ p.2 = [] ∨ q.1 = [] ∨ q.2 = []) then
    let f := formN 2 (more * 48271 % 65537) base
    let g := formN 1 (more * 16807 % 65539) base
    ls ++ [⟨(once ([f] ++ repB g (cell / 3 % 2)), once (repB g (cell / 2 % 2) ++ [f])), .fm .same f, []⟩]
  else if kind < 7 then restN ls (oneN p.1 p.2 kind more).1 (oneN p.1 p.2 kind more).2.1 (oneN p.1 p.2 kind more).2.2 [at_]
  else restN ls (twoN p q kind more).1 (twoN p q kind more).2.1 (twoN p q kind more).2.2 [at_, at2]
def chainN (cells : List Int) (base : Int) : List Ln :=
  cells.foldl (fun ls cell => grownN ls (cell * 48271 % 1000003) base) [⟨([formN 2 (cells.headD 0) base], [formN 2 (cells.headD 0) base]), .fm .same (formN 2 (cells.headD 0) base), []⟩]
/-! ### what holds of them -/
def LsOk (ls : List Ln) : Prop := ∀ l ∈ ls, LnOk l
theorem clAt_get {ls : List Ln} {k : Nat} {l : Ln} (h : ls[k]? = some l) : clAt ls k = l.c := by unfold clAt; rw [h]; rfl
theorem clAt_ok {ls : List Ln} (h : LsOk ls) (k : Nat) : GdC (clAt ls k) ∧ wordsC (clAt ls k) ≤ 24 := by
  unfold clAt
  cases e : ls[k]? with
  | none => exact ⟨⟨gd_nil, gd_nil⟩, by show (0 : Nat) ≤ 24; decide⟩
  | some l => exact ⟨(h l (List.mem_of_getElem? e)).gc, (h l (List.mem_of_getElem? e)).wc⟩
theorem clAt_app {ls : List Ln} {k : Nat} (h : k < ls.length) (ms : List Ln) : clAt (ls ++ ms) k = clAt ls k := by unfold clAt; rw [List.getElem?_append_left h]
theorem gd_without {L : List Fm} (h : Gd L) (f : Fm) : Gd (without L f) := fun k hk => h k (mem_without.mp hk).1
theorem gd_getF {L : List Fm} (h : Gd L) (n : L ≠ []) (i : Int) : (getF L (i % (L.length : Int))).good ∧ (getF L (i % (L.length : Int))).dep ≤ 12 := h _ (getF_mod n i).2
/-- formulas good, of a depth as the drawn ones' -/
def Gd13 (L : List Fm) : Prop := ∀ f ∈ L, f.good ∧ f.dep ≤ 13
theorem Gd.g13 {L : List Fm} (h : Gd L) : Gd13 L := fun f hf => ⟨(h f hf).1, Nat.le_succ_of_le (h f hf).2⟩
theorem g13_once {L : List Fm} (h : Gd13 L) : Gd13 (once L) := fun f hf => h f (mem_once.mp hf)
theorem g13_app {L R : List Fm} (h : Gd13 L) (k : Gd13 R) : Gd13 (L ++ R) := fun f hf => (List.mem_append.mp hf).elim (h f) (k f)
theorem g13_without {L : List Fm} (h : Gd13 L) (f : Fm) : Gd13 (without L f) := fun k hk => h k (mem_without.mp hk).1
theorem g13_one {f : Fm} (h : f.good) (d : f.dep ≤ 13) : Gd13 [f] := fun k hk => by rw [List.mem_singleton.mp hk]; exact ⟨h, d⟩
/-- what a made line is: its formula stands where its rule says, all good, and where the rule's formula isn't too deep, nothing is -/
structure Made (c : Cl) (w : Wd) (f : Fm) : Prop where
  fit : fits c (.fm w f) = true
  g1 : Gd13 c.1
  g2 : Gd13 c.2
  gf : f.good ∧ f.dep ≤ 13
  low : f.dep ≤ 12 → GdC c
  l1 : c.1.length ≤ 200
  l2 : c.2.length ≤ 200
theorem once_mem_last {L : List Fm} {f : Fm} : f ∈ once (L ++ [f]) := mem_once.mpr (List.mem_append_right _ List.mem_cons_self)
theorem without_le (L : List Fm) (f : Fm) : (without L f).length ≤ L.length := List.length_filter_le _ _
theorem fit_right {c : Cl} {f : Fm} (h : f ∈ c.2) (s : f.isSg = false) : fits c (.fm .right f) = true := by
  show (decide (f ∈ c.2) && !f.isSg) = true
  rw [decide_eq_true h, s]; rfl
theorem fit_left {c : Cl} {f : Fm} (h : f ∈ c.1) (s : f.isSg = false) : fits c (.fm .left f) = true := by
  show (decide (f ∈ c.1) && !f.isSg) = true
  rw [decide_eq_true h, s]; rfl
theorem one_made {L R : List Fm} (gL : Gd L) (gR : Gd R) (nL : L ≠ []) (nR : R ≠ []) (lL : L.length ≤ 24) (lR : R.length ≤ 24) (kind more : Int) : Made (oneN L R kind more).1 (oneN L R kind more).2.1 (oneN L R kind more).2.2 := by
  have ga := gd_getF gL nL more
  have gb := gd_getF gR nR (more / 2)
  have ga3 := gd_getF gL nL (more / 3)
  have gb3 := gd_getF gR nR (more / 3)
  unfold oneN
  dsimp only
  generalize getF L (more % (L.length : Int)) = a at ga
  generalize getF R (more / 2 % (R.length : Int)) = b at gb
  generalize getF L (more / 3 % (L.length : Int)) = a3 at ga3
  generalize getF R (more / 3 % (R.length : Int)) = b3 at gb3
  have ol := fun (A : List Fm) (f : Fm) => once_len (A ++ [f])
  by_cases k2 : kind = 2
  · rw [if_pos k2]
    have g : (Fm.no a).good ∧ (Fm.no a).dep ≤ 13 := ⟨ga.1, Nat.succ_le_succ ga.2⟩
    refine ⟨fit_right once_mem_last rfl, g13_without gL.g13 a, g13_once (g13_app gR.g13 (g13_one g.1 g.2)), g, fun d => ⟨gd_without gL a, gd_once (gd_app gR (gd_one g.1 d))⟩, ?_, ?_⟩
    · have := without_le L a; show (without L a).length ≤ 200; omega
    · have := ol R (.no a); rw [List.length_append, List.length_singleton] at this; show (once _).length ≤ 200; omega
  rw [if_neg k2]
  by_cases k3 : kind = 3
  · rw [if_pos k3]
    have g : (Fm.no b).good ∧ (Fm.no b).dep ≤ 13 := ⟨gb.1, Nat.succ_le_succ gb.2⟩
    refine ⟨fit_left once_mem_last rfl, g13_once (g13_app gL.g13 (g13_one g.1 g.2)), g13_without gR.g13 b, g, fun d => ⟨gd_once (gd_app gL (gd_one g.1 d)), gd_without gR b⟩, ?_, ?_⟩
    · have := ol L (.no b); rw [List.length_append, List.length_singleton] at this; show (once _).length ≤ 200; omega
    · have := without_le R b; show (without R b).length ≤ 200; omega
  rw [if_neg k3]
  by_cases k4 : kind = 4
  · rw [if_pos k4]
    have g : (Fm.bi .o b b3).good ∧ (Fm.bi .o b b3).dep ≤ 13 := ⟨⟨gb.1, gb3.1⟩, by show max b.dep b3.dep + 1 ≤ 13; omega⟩
    refine ⟨fit_right once_mem_last rfl, gL.g13, g13_once (g13_app (g13_without (g13_without gR.g13 b) b3) (g13_one g.1 g.2)), g, fun d => ⟨gL, gd_once (gd_app (gd_without (gd_without gR b) b3) (gd_one g.1 d))⟩, ?_, ?_⟩
    · show L.length ≤ 200; omega
    · have := ol (without (without R b) b3) (.bi .o b b3); have h1 := without_le (without R b) b3; have h2 := without_le R b; rw [List.length_append, List.length_singleton] at this; show (once _).length ≤ 200; omega
  rw [if_neg k4]
  by_cases k5 : kind = 5
  · rw [if_pos k5]
    have g : (Fm.bi .an a a3).good ∧ (Fm.bi .an a a3).dep ≤ 13 := ⟨⟨ga.1, ga3.1⟩, by show max a.dep a3.dep + 1 ≤ 13; omega⟩
    refine ⟨fit_left once_mem_last rfl, g13_once (g13_app (g13_without (g13_without gL.g13 a) a3) (g13_one g.1 g.2)), gR.g13, g, fun d => ⟨gd_once (gd_app (gd_without (gd_without gL a) a3) (gd_one g.1 d)), gR⟩, ?_, ?_⟩
    · have := ol (without (without L a) a3) (.bi .an a a3); have h1 := without_le (without L a) a3; have h2 := without_le L a; rw [List.length_append, List.length_singleton] at this; show (once _).length ≤ 200; omega
    · show R.length ≤ 200; omega
  rw [if_neg k5]
  have g : (Fm.bi .th a b).good ∧ (Fm.bi .th a b).dep ≤ 13 := ⟨⟨ga.1, gb.1⟩, by show max a.dep b.dep + 1 ≤ 13; omega⟩
  refine ⟨fit_right once_mem_last rfl, g13_without gL.g13 a, g13_once (g13_app (g13_without gR.g13 b) (g13_one g.1 g.2)), g, fun d => ⟨gd_without gL a, gd_once (gd_app (gd_without gR b) (gd_one g.1 d))⟩, ?_, ?_⟩
  · have := without_le L a; show (without L a).length ≤ 200; omega
  · have := ol (without R b) (.bi .th a b); have h2 := without_le R b; rw [List.length_append, List.length_singleton] at this; show (once _).length ≤ 200; omega
theorem two_made {p q : Cl} (gp : GdC p) (gq : GdC q) (n1 : p.1 ≠ []) (n2 : p.2 ≠ []) (n3 : q.1 ≠ []) (n4 : q.2 ≠ []) (l1 : p.1.length ≤ 24) (l2 : p.2.length ≤ 24) (l3 : q.1.length ≤ 24) (l4 : q.2.length ≤ 24) (kind more : Int) : Made (twoN p q kind more).1 (twoN p q kind more).2.1 (twoN p q kind more).2.2 := by
  have ga := gd_getF gp.1 n1 more
  have gb := gd_getF gp.2 n2 (more / 2)
  have gc := gd_getF gq.1 n3 (more / 3)
  have gd := gd_getF gq.2 n4 (more / 5)
  unfold twoN
  dsimp only
  generalize getF p.1 (more % (p.1.length : Int)) = a at ga
  generalize getF p.2 (more / 2 % (p.2.length : Int)) = b at gb
  generalize getF q.1 (more / 3 % (q.1.length : Int)) = c at gc
  generalize getF q.2 (more / 5 % (q.2.length : Int)) = d at gd
  obtain ⟨g1, g2⟩ := gp
  obtain ⟨g3, g4⟩ := gq
  have w1 := without_le p.1 a
  have w2 := without_le p.2 b
  have w3 := without_le q.1 c
  have w4 := without_le q.2 d
  have oc := fun (A B : List Fm) => once_len (A ++ B)
  by_cases k7 : 7 < kind
  · rw [if_pos k7]
    refine ⟨rfl, g13_once (g13_app g1.g13 g3.g13), g13_once (g13_app (g13_without g2.g13 b) g4.g13), ⟨gb.1, Nat.le_succ_of_le gb.2⟩, fun _ => ⟨gd_once (gd_app g1 g3), gd_once (gd_app (gd_without g2 b) g4)⟩, ?_, ?_⟩
    · have := oc p.1 q.1; rw [List.length_append] at this; show (once _).length ≤ 200; omega
    · have := oc (without p.2 b) q.2; rw [List.length_append] at this; show (once _).length ≤ 200; omega
  rw [if_neg k7]
  by_cases k0 : more % 3 = 0
  · rw [if_pos k0]
    have g : (Fm.bi .an b d).good ∧ (Fm.bi .an b d).dep ≤ 13 := ⟨⟨gb.1, gd.1⟩, by show max b.dep d.dep + 1 ≤ 13; omega⟩
    refine ⟨fit_right (mem_once.mpr (List.mem_append_right _ (List.mem_append_right _ List.mem_cons_self))) rfl, g13_once (g13_app g1.g13 g3.g13), g13_once (g13_app (g13_without g2.g13 b) (g13_app (g13_without g4.g13 d) (g13_one g.1 g.2))), g, fun z => ⟨gd_once (gd_app g1 g3), gd_once (gd_app (gd_without g2 b) (gd_app (gd_without g4 d) (gd_one g.1 z)))⟩, ?_, ?_⟩
    · have := oc p.1 q.1; rw [List.length_append] at this; show (once _).length ≤ 200; omega
    · have := oc (without p.2 b) (without q.2 d ++ [.bi .an b d]); rw [List.length_append, List.length_append, List.length_singleton] at this; show (once _).length ≤ 200; omega
  rw [if_neg k0]
  by_cases k1 : more % 3 = 1
  · rw [if_pos k1]
    have g : (Fm.bi .o a c).good ∧ (Fm.bi .o a c).dep ≤ 13 := ⟨⟨ga.1, gc.1⟩, by show max a.dep c.dep + 1 ≤ 13; omega⟩
    refine ⟨fit_left (mem_once.mpr (List.mem_append_right _ (List.mem_append_right _ List.mem_cons_self))) rfl, g13_once (g13_app (g13_without g1.g13 a) (g13_app (g13_without g3.g13 c) (g13_one g.1 g.2))), g13_once (g13_app g2.g13 g4.g13), g, fun z => ⟨gd_once (gd_app (gd_without g1 a) (gd_app (gd_without g3 c) (gd_one g.1 z))), gd_once (gd_app g2 g4)⟩, ?_, ?_⟩
    · have := oc (without p.1 a) (without q.1 c ++ [.bi .o a c]); rw [List.length_append, List.length_append, List.length_singleton] at this; show (once _).length ≤ 200; omega
    · have := oc p.2 q.2; rw [List.length_append] at this; show (once _).length ≤ 200; omega
  rw [if_neg k1]
  have g : (Fm.bi .th b c).good ∧ (Fm.bi .th b c).dep ≤ 13 := ⟨⟨gb.1, gc.1⟩, by show max b.dep c.dep + 1 ≤ 13; omega⟩
  refine ⟨fit_left (mem_once.mpr (List.mem_append_right _ (List.mem_append_right _ List.mem_cons_self))) rfl, g13_once (g13_app g1.g13 (g13_app (g13_without g3.g13 c) (g13_one g.1 g.2))), g13_once (g13_app (g13_without g2.g13 b) g4.g13), g, fun z => ⟨gd_once (gd_app g1 (gd_app (gd_without g3 c) (gd_one g.1 z))), gd_once (gd_app (gd_without g2 b) g4)⟩, ?_, ?_⟩
  · have := oc p.1 (without q.1 c ++ [.bi .th b c]); rw [List.length_append, List.length_append, List.length_singleton] at this; show (once _).length ≤ 200; omega
  · have := oc (without p.2 b) q.2; rw [List.length_append] at this; show (once _).length ≤ 200; omega
end Lm
set_option Elab.async false
set_option linter.all false
set_option maxRecDepth 100000
set_option maxHeartbeats 400000
namespace Lm
open PySem PySem.Spec PyProof.Rows L2
theorem wants_len {c : Cl} {w : Wd} {f : Fm} : (wants c (.fm w f)).length = (putIn w f).length := by
  show (List.map _ _).length = _
  rw [List.length_map]
theorem one_len (L R : List Fm) (kind more : Int) : (putIn (oneN L R kind more).2.1 (oneN L R kind more).2.2).length = 1 := by
  unfold oneN
  dsimp only
  repeat' split
  all_goals rfl
theorem two_len (p q : Cl) (kind more : Int) : (putIn (twoN p q kind more).2.1 (twoN p q kind more).2.2).length = 2 := by
  unfold twoN
  dsimp only
  repeat' split
  all_goals rfl
theorem made_wants {c : Cl} {w : Wd} {f : Fm} (m : Made c w f) : lwants c (.fm w f) = some (wants c (.fm w f)) := by rw [lwants_eq, m.fit, if_pos rfl]
theorem places_ok : ∀ (ps : List (Nat × Cl)) (ls : List Ln) (us : List Int), LsOk ls → (∀ p ∈ ps, GdC p.2 ∧ wordsC p.2 ≤ 24) → LsOk (placesN ps ls us).1 ∧ ls.length ≤ (placesN ps ls us).1.length ∧ (placesN ps ls us).1.length ≤ ls.length + ps.length ∧ (placesN ps ls us).2.length = us.length + ps.length
  | [], ls, us, h, _ => ⟨h, Nat.le_refl _, Nat.le_refl _, rfl⟩
  | (k, w) :: r, ls, us, h, hp => by
    rw [placesN]
    obtain ⟨g, n⟩ := hp _ List.mem_cons_self
    have hr : ∀ p ∈ r, GdC p.2 ∧ wordsC p.2 ≤ 24 := fun p hp' => hp p (List.mem_cons_of_mem _ hp')
    split
    · obtain ⟨a, b, c, d⟩ := places_ok r ls (us ++ [(k : Int)]) h hr
      refine ⟨a, b, ?_, ?_⟩
      · rw [List.length_cons]; omega
      · rw [d, List.length_append, List.length_singleton, List.length_cons]; omega
    · have h2 : LsOk (ls ++ [⟨w, .more (clAt ls k), [(k : Int)]⟩]) := fun l hl => by
        rcases List.mem_append.mp hl with hl | hl
        · exact h l hl
        · rw [List.mem_singleton.mp hl]
          exact ⟨g, n, clAt_ok h k⟩
      obtain ⟨a, b, c, d⟩ := places_ok r _ (us ++ [(ls.length : Int)]) h2 hr
      rw [List.length_append, List.length_singleton] at b c
      refine ⟨a, by omega, ?_, ?_⟩
      · rw [List.length_cons]; omega
      · rw [d, List.length_append, List.length_singleton, List.length_cons]; omega
theorem places_app : ∀ (l m : List (Nat × Cl)) (ls : List Ln) (ps : List Int), placesN (l ++ m) ls ps = placesN m (placesN l ls ps).1 (placesN l ls ps).2
  | [], m, ls, ps => rfl
  | (k, w) :: r, m, ls, ps => by
    rw [List.cons_append, placesN, placesN]
    split
    · exact places_app r m _ _
    · exact places_app r m _ _
/-- the lines that stood stand still -/
theorem places_old : ∀ (l : List (Nat × Cl)) (ls : List Ln) (ps : List Int), ∃ ms, (placesN l ls ps).1 = ls ++ ms
  | [], ls, ps => ⟨[], by rw [List.append_nil]; rfl⟩
  | (k, w) :: r, ls, ps => by
    rw [placesN]
    split
    · exact places_old r ls _
    · obtain ⟨ms, e⟩ := places_old r (ls ++ [⟨w, .more (clAt ls k), [(k : Int)]⟩]) (ps ++ [(ls.length : Int)])
      exact ⟨_, by rw [e, List.append_assoc]⟩
theorem words_app2 (A B : List Fm) : wordsS (A ++ B) = wordsS A + wordsS B := wordsS_app A B
theorem rest_ok {ls : List Ln} {c : Cl} {w : Wd} {f : Fm} {uses : List Nat} (h : LsOk ls) (m : Made c w f) (ul : uses.length ≤ 2) : LsOk (restN ls c w f uses) ∧ ls.length ≤ (restN ls c w f uses).length ∧ (restN ls c w f uses).length ≤ ls.length + 3 := by
  unfold restN
  rw [made_wants m]
  dsimp only
  split
  · exact ⟨h, Nat.le_refl _, Nat.le_add_right _ _⟩
  rename_i tm
  split
  · exact ⟨h, Nat.le_refl _, Nat.le_add_right _ _⟩
  have fd : f.dep ≤ 12 := Nat.le_of_not_lt fun z => tm (.inr z)
  have wc : ∀ x ∈ wants c (.fm w f) ++ [c], wordsC x ≤ 24 := fun x hx => Nat.le_of_not_lt fun z => tm (.inl ⟨x, hx, z⟩)
  have cw := wc c (List.mem_append_right _ List.mem_cons_self)
  have gc := m.low fd
  have wm := (wants_mid (c := c) (ru := .fm w f) ⟨gc, Nat.le_trans cw (by decide)⟩ ⟨m.gf.1, fd⟩ m.fit).1
  have hp : ∀ p ∈ uses.zip (wants c (.fm w f)), GdC p.2 ∧ wordsC p.2 ≤ 24 := fun p hp => by
    have := (List.of_mem_zip hp).2
    exact ⟨(wm _ this).gd, wc _ (List.mem_append_left _ this)⟩
  obtain ⟨a, b, d, _⟩ := places_ok _ ls [] h hp
  have zl : (uses.zip (wants c (.fm w f))).length ≤ 2 := by rw [List.length_zip]; omega
  refine ⟨fun l hl => ?_, ?_, ?_⟩
  · rcases List.mem_append.mp hl with hl | hl
    · exact a l hl
    · rw [List.mem_singleton.mp hl]
      exact ⟨gc, cw, m.gf.1, fd⟩
  · rw [List.length_append]; omega
  · rw [List.length_append, List.length_singleton]; omega
theorem rep_gd {f : Fm} (h : f.good ∧ f.dep ≤ 12) (k : Int) : Gd (repB f k) := fun g hg => by rw [List.eq_of_mem_replicate hg]; exact h
theorem rep_words {f : Fm} (k : Int) : wordsS (repB f k) = k.toNat * f.size := by
  unfold repB
  generalize k.toNat = n
  induction n with
  | zero => rw [Nat.zero_mul]; rfl
  | succ n ih => rw [List.replicate_succ, wordsS_cons, ih, Nat.succ_mul, Nat.add_comm]
theorem mod2 (z : Int) : (z % 2).toNat ≤ 1 := by
  have := Int.emod_lt_of_pos z (by decide : (0 : Int) < 2)
  omega
theorem form_size (n : Nat) (c b : Int) : (formN n c b).size + 1 ≤ 2 ^ (n + 1) := size_dep (formN_dep n c b)
theorem grown_ok {ls : List Ln} (h : LsOk ls) (ne : ls ≠ []) (cell base : Int) : LsOk (grownN ls cell base) ∧ grownN ls cell base ≠ [] ∧ (grownN ls cell base).length ≤ ls.length + 3 := by
  unfold grownN
  dsimp only
  generalize ((ls.length : Int) - 1 - cell / 10 % (if 3 < (ls.length : Int) then 3 else (ls.length : Int))).toNat = A
  generalize (cell / 10 / 7 % (ls.length : Int)).toNat = B
  split
  · have g2 := formN_good 2 (cell / 10 * 48271 % 65537) base
    have d2 := formN_dep 2 (cell / 10 * 48271 % 65537) base
    have s2 := form_size 2 (cell / 10 * 48271 % 65537) base
    have g1 := formN_good 1 (cell / 10 * 16807 % 65539) base
    have d1 := formN_dep 1 (cell / 10 * 16807 % 65539) base
    have s1 := form_size 1 (cell / 10 * 16807 % 65539) base
    generalize formN 2 (cell / 10 * 48271 % 65537) base = f at g2 d2 s2
    generalize formN 1 (cell / 10 * 16807 % 65539) base = g at g1 d1 s1
    have e2 : (2 : Nat) ^ (2 + 1) = 8 := by decide
    have e1 : (2 : Nat) ^ (1 + 1) = 4 := by decide
    rw [e2] at s2
    rw [e1] at s1
    have gf : f.good ∧ f.dep ≤ 12 := ⟨g2, by omega⟩
    have gg : g.good ∧ g.dep ≤ 12 := ⟨g1, by omega⟩
    have w1 := once_words ([f] ++ repB g (cell / 3 % 2))
    have w2 := once_words (repB g (cell / 2 % 2) ++ [f])
    rw [words_app2, rep_words] at w1 w2
    have m1 := mod2 (cell / 3)
    have m2 := mod2 (cell / 2)
    have x1 : (cell / 3 % 2).toNat * g.size ≤ 1 * 3 := Nat.mul_le_mul m1 (by omega)
    have x2 : (cell / 2 % 2).toNat * g.size ≤ 1 * 3 := Nat.mul_le_mul m2 (by omega)
    have f1 : wordsS [f] = f.size := by rw [wordsS_cons, wordsS_nil]; rfl
    refine ⟨fun l hl => ?_, by simp, by rw [List.length_append, List.length_singleton]; omega⟩
    rcases List.mem_append.mp hl with hl | hl
    · exact h l hl
    · rw [List.mem_singleton.mp hl]
      refine ⟨⟨gd_once (gd_app (gd_one gf.1 gf.2) (rep_gd gg _)), gd_once (gd_app (rep_gd gg _) (gd_one gf.1 gf.2))⟩, ?_, gf⟩
      show wordsS (once _) + wordsS (once _) ≤ 24
      omega
  rename_i hn
  have hn : ¬ cell % 10 < 1 ∧ ¬ _ := not_or.mp hn
  obtain ⟨_, hn⟩ := hn
  rw [not_or, not_or, not_or] at hn
  obtain ⟨n1, n2, n3, n4⟩ := hn
  have pk := clAt_ok h A
  have qk := clAt_ok h B
  have len : ∀ {c : Cl}, wordsC c ≤ 24 → c.1.length ≤ 24 ∧ c.2.length ≤ 24 := fun {c} h => by
    have h : wordsS c.1 + wordsS c.2 ≤ 24 := h
    have := words_len c.1
    have := words_len c.2
    omega
  have lp := len pk.2
  have lq := len qk.2
  have nonempty : ∀ {ms : List Ln}, ls.length ≤ ms.length → ms ≠ [] := fun {ms} a b => by
    have := List.length_pos_iff.mpr ne
    rw [b] at a
    have : ([] : List Ln).length = 0 := rfl
    omega
  split
  · obtain ⟨a, b, c⟩ := rest_ok (uses := [A]) h (one_made pk.1.1 pk.1.2 n1 n2 lp.1 lp.2 (cell % 10) (cell / 10)) (by decide : 1 ≤ 2)
    exact ⟨a, nonempty b, c⟩
  · obtain ⟨a, b, c⟩ := rest_ok (uses := [A, B]) h (two_made pk.1 qk.1 n1 n2 n3 n4 lp.1 lp.2 lq.1 lq.2 (cell % 10) (cell / 10)) (by decide : 2 ≤ 2)
    exact ⟨a, nonempty b, c⟩
theorem fold_ok (base : Int) : ∀ (cells : List Int) (ls : List Ln), LsOk ls → ls ≠ [] → LsOk (cells.foldl (fun ls cell => grownN ls (cell * 48271 % 1000003) base) ls) ∧ cells.foldl (fun ls cell => grownN ls (cell * 48271 % 1000003) base) ls ≠ [] ∧ (cells.foldl (fun ls cell => grownN ls (cell * 48271 % 1000003) base) ls).length ≤ ls.length + 3 * cells.length
  | [], ls, h, n => ⟨h, n, Nat.le_refl _⟩
  | c :: cs, ls, h, n => by
    obtain ⟨a, b, d⟩ := grown_ok h n (c * 48271 % 1000003) base
    obtain ⟨a', b', d'⟩ := fold_ok base cs _ a b
    refine ⟨a', b', ?_⟩
    rw [List.foldl_cons, List.length_cons]
    omega
def first0 (f : Fm) : List Ln := [⟨([f], [f]), .fm .same f, []⟩]
theorem first_ok (c base : Int) : LsOk (first0 (formN 2 c base)) := fun l hl => by
  have g2 := formN_good 2 c base
  have d2 := formN_dep 2 c base
  have s2 := form_size 2 c base
  have e2 : (2 : Nat) ^ (2 + 1) = 8 := by decide
  rw [e2] at s2
  rw [List.mem_singleton.mp hl]
  refine ⟨⟨gd_one g2 (by omega), gd_one g2 (by omega)⟩, ?_, g2, by omega⟩
  show ((formN 2 c base).size + 0) + ((formN 2 c base).size + 0) ≤ 24
  omega
theorem chain_ok (cells : List Int) (base : Int) : LsOk (chainN cells base) ∧ chainN cells base ≠ [] ∧ (chainN cells base).length ≤ 1 + 3 * cells.length :=
  fold_ok base cells (first0 (formN 2 (cells.headD 0) base)) (first_ok _ _) (by simp [first0])
end Lm
set_option Elab.async false
set_option linter.all false
set_option maxRecDepth 100000
set_option maxHeartbeats 400000
/-! the drawn lines use two lines at most -/
namespace Lm
open PySem PySem.Spec PyProof.Rows L2
def U2 (ls : List Ln) : Prop := ∀ l ∈ ls, l.u.length ≤ 2
theorem u2_app {ls ms : List Ln} (h : U2 ls) (k : U2 ms) : U2 (ls ++ ms) := fun l hl => (List.mem_append.mp hl).elim (h l) (k l)
theorem u2_one {l : Ln} (h : l.u.length ≤ 2) : U2 [l] := fun x hx => by rw [List.mem_singleton.mp hx]; exact h
theorem places_u : ∀ (ps : List (Nat × Cl)) (ls : List Ln) (us : List Int), U2 ls → U2 (placesN ps ls us).1 ∧ (placesN ps ls us).2.length = us.length + ps.length
  | [], ls, us, h => ⟨h, rfl⟩
  | (k, w) :: r, ls, us, h => by
    rw [placesN]
    split
    · obtain ⟨a, b⟩ := places_u r ls (us ++ [(k : Int)]) h
      refine ⟨a, ?_⟩
      rw [b, List.length_append, List.length_singleton, List.length_cons]
      omega
    · obtain ⟨a, b⟩ := places_u r (ls ++ [⟨w, .more (clAt ls k), [(k : Int)]⟩]) (us ++ [(ls.length : Int)]) (u2_app h (u2_one (by show 1 ≤ 2; decide)))
      refine ⟨a, ?_⟩
      rw [b, List.length_append, List.length_singleton, List.length_cons]
      omega
theorem rest_u {ls : List Ln} {c : Cl} {w : Wd} {f : Fm} {uses : List Nat} (h : U2 ls) (ul : uses.length ≤ 2) : U2 (restN ls c w f uses) := by
  unfold restN
  split
  · exact h
  · split
    · exact h
    · split
      · exact h
      · rename_i ws _ _ _
        obtain ⟨a, b⟩ := places_u (uses.zip ws) ls [] h
        refine u2_app a (u2_one ?_)
        show (placesN (uses.zip ws) ls []).2.length ≤ 2
        rw [b, List.length_zip]
        show 0 + _ ≤ 2
        omega
theorem grown_u {ls : List Ln} (h : U2 ls) (cell base : Int) : U2 (grownN ls cell base) := by
  unfold grownN
  dsimp only
  generalize ((ls.length : Int) - 1 - cell / 10 % (if 3 < (ls.length : Int) then 3 else (ls.length : Int))).toNat = A
  generalize (cell / 10 / 7 % (ls.length : Int)).toNat = B
  split
  · exact u2_app h (u2_one (Nat.zero_le _))
  split
  · exact rest_u h (by show 1 ≤ 2; decide)
  · exact rest_u h (by show 2 ≤ 2; decide)
theorem fold_u (base : Int) : ∀ (cells : List Int) (ls : List Ln), U2 ls → U2 (cells.foldl (fun ls cell => grownN ls (cell * 48271 % 1000003) base) ls)
  | [], _, h => h
  | c :: cs, ls, h => fold_u base cs _ (grown_u h _ _)
theorem chain_u (cells : List Int) (base : Int) : U2 (chainN cells base) := fold_u base cells (first0 (formN 2 (cells.headD 0) base)) (u2_one (Nat.zero_le _))
end Lm
set_option Elab.async false
set_option linter.all false
set_option maxRecDepth 100000
set_option maxHeartbeats 400000
/-! the drawn chains are chains -/
namespace Lm
open PySem PySem.Spec PyProof.Rows L2
def Wk (ls : List Ln) : Prop := Chn (ls.map Ln.toD) (ls.map Ln.c)
theorem clAt_at {ls : List Ln} {k : Nat} (h : k < ls.length) : (ls.map Ln.c)[k]? = some (clAt ls k) := by
  rw [List.getElem?_map]
  unfold clAt
  rw [List.getElem?_eq_getElem h]
  rfl
theorem walk_snoc {ls : List Ln} {l : Ln} (h : Wk ls) (gc : GdC l.c) (wc : wordsC l.c ≤ 60) (ok : l.r.ok) (ft : fits l.c l.r = true) (ln : l.u.length = (wants l.c l.r).length)
    (t : ∀ (i : Nat) (w : Cl), (wants l.c l.r)[i]? = some w → ∃ k : Nat, l.u[i]? = some (k : Int) ∧ k < ls.length ∧ Alike (clAt ls k) w) : Wk (ls ++ [l]) := by
  unfold Wk
  rw [List.map_append, List.map_append]
  refine .snoc (c := l.c) (ru := l.r) (ns := l.u.map PyData.int) h ⟨rfl, gc, wc, ok, ft, by rw [List.length_map, ln], fun p hp => ?_⟩
  obtain ⟨i, hi⟩ := List.getElem?_of_mem hp
  obtain ⟨h1, h2⟩ := List.getElem?_zip_eq_some.mp hi
  obtain ⟨k, e, kl, al⟩ := t i p.2 h2
  rw [List.getElem?_map, e] at h1
  exact ⟨k, clAt ls k, (Option.some.inj h1).symm, clAt_at kl, al⟩
theorem places_walk : ∀ (ps : List (Nat × Cl)) (ls : List Ln) (us : List Int), Wk ls → (∀ p ∈ ps, p.1 < ls.length ∧ GdC p.2 ∧ wordsC p.2 ≤ 24 ∧ Sub (clAt ls p.1) p.2) → LsOk ls →
    Wk (placesN ps ls us).1 ∧ ls.length ≤ (placesN ps ls us).1.length ∧ ∃ vs, (placesN ps ls us).2 = us ++ vs ∧ vs.length = ps.length ∧ ∀ (i : Nat) (p : Nat × Cl), ps[i]? = some p → ∃ k : Nat, vs[i]? = some (k : Int) ∧ k < (placesN ps ls us).1.length ∧ Alike (clAt (placesN ps ls us).1 k) p.2
  | [], ls, us, h, _, _ => ⟨h, Nat.le_refl _, [], (List.append_nil _).symm, rfl, fun i p e => (nomatch e)⟩
  | (k, w) :: r, ls, us, h, hp, ok => by
    obtain ⟨kl, gw, ww, sw⟩ := hp (k, w) List.mem_cons_self
    have hr : ∀ p ∈ r, p.1 < ls.length ∧ GdC p.2 ∧ wordsC p.2 ≤ 24 ∧ Sub (clAt ls p.1) p.2 := fun p hp' => hp p (List.mem_cons_of_mem _ hp')
    rw [placesN]
    by_cases c : Sub w (clAt ls k)
    · rw [if_pos c]
      obtain ⟨a, b, vs, e, l, t⟩ := places_walk r ls (us ++ [(k : Int)]) h hr ok
      refine ⟨a, b, (k : Int) :: vs, by rw [e, List.append_assoc]; rfl, by rw [List.length_cons, List.length_cons, l], fun i p hi => ?_⟩
      cases i with
      | zero =>
        cases hi
        obtain ⟨ms, em⟩ := places_old r ls (us ++ [(k : Int)])
        refine ⟨k, rfl, by omega, ?_⟩
        rw [em, clAt_app kl]
        exact ⟨fun f => ⟨fun z => sw.1 f z, fun z => c.1 f z⟩, fun f => ⟨fun z => sw.2 f z, fun z => c.2 f z⟩⟩
      | succ i => exact t i p hi
    · rw [if_neg c]
      obtain ⟨gk, wk⟩ := clAt_ok ok k
      have h' : Wk (ls ++ [⟨w, .more (clAt ls k), [(k : Int)]⟩]) := by
        refine walk_snoc h gw (Nat.le_trans ww (by decide)) ⟨gk, Nat.le_trans wk (by decide)⟩ (decide_eq_true sw) rfl fun i v hi => ?_
        cases i with
        | zero =>
          cases hi
          exact ⟨k, rfl, kl, fun f => mem_once.symm, fun f => mem_once.symm⟩
        | succ i => cases hi
      have ok' : LsOk (ls ++ [⟨w, .more (clAt ls k), [(k : Int)]⟩]) := fun l hl => by
        rcases List.mem_append.mp hl with hl | hl
        · exact ok l hl
        · rw [List.mem_singleton.mp hl]
          exact ⟨gw, ww, gk, wk⟩
      obtain ⟨a, b, vs, e, l, t⟩ := places_walk r (ls ++ [⟨w, .more (clAt ls k), [(k : Int)]⟩]) (us ++ [(ls.length : Int)]) h' (fun p hp' => by
        obtain ⟨x, y, z, u⟩ := hr p hp'
        exact ⟨by rw [List.length_append]; omega, y, z, by rw [clAt_app x]; exact u⟩) ok'
      rw [List.length_append, List.length_singleton] at b
      refine ⟨a, by omega, (ls.length : Int) :: vs, by rw [e, List.append_assoc]; rfl, by rw [List.length_cons, List.length_cons, l], fun i p hi => ?_⟩
      cases i with
      | zero =>
        cases hi
        obtain ⟨ms, em⟩ := places_old r (ls ++ [⟨w, .more (clAt ls k), [(k : Int)]⟩]) (us ++ [(ls.length : Int)])
        refine ⟨ls.length, rfl, by omega, ?_⟩
        rw [em, clAt_app (by rw [List.length_append, List.length_singleton]; omega)]
        have e : clAt (ls ++ [⟨w, .more (clAt ls k), [(k : Int)]⟩]) ls.length = w := clAt_get (l := ⟨w, .more (clAt ls k), [(k : Int)]⟩) (by rw [List.getElem?_append_right (Nat.le_refl _), Nat.sub_self]; rfl)
        rw [e]
        exact alike_refl w
      | succ i => exact t i p hi
theorem rest_walk {ls : List Ln} {c : Cl} {w : Wd} {f : Fm} {uses : List Nat} (hw : Wk ls) (h : LsOk ls) (m : Made c w f) (ul : uses.length = (putIn w f).length) (ub : ∀ k ∈ uses, k < ls.length) : Wk (restN ls c w f uses) := by
  unfold restN
  rw [made_wants m]
  dsimp only
  split
  · exact hw
  rename_i tm
  split
  · exact hw
  rename_i su
  have su : ∀ p ∈ uses.zip (wants c (.fm w f)), Sub (clAt ls p.1) p.2 := Classical.not_not.mp su
  have fd : f.dep ≤ 12 := Nat.le_of_not_lt fun z => tm (.inr z)
  have wc : ∀ x ∈ wants c (.fm w f) ++ [c], wordsC x ≤ 24 := fun x hx => Nat.le_of_not_lt fun z => tm (.inl ⟨x, hx, z⟩)
  have cw := wc c (List.mem_append_right _ List.mem_cons_self)
  have gc := m.low fd
  have wm := (wants_mid (c := c) (ru := .fm w f) ⟨gc, Nat.le_trans cw (by decide)⟩ ⟨m.gf.1, fd⟩ m.fit).1
  have wl : (wants c (.fm w f)).length = uses.length := by rw [wants_len, ul]
  obtain ⟨a, b, vs, e, l, t⟩ := places_walk (uses.zip (wants c (.fm w f))) ls [] hw (fun p hp => by
    obtain ⟨p1, p2⟩ := List.of_mem_zip hp
    exact ⟨ub _ p1, (wm _ p2).gd, wc _ (List.mem_append_left _ p2), su p hp⟩) h
  have zl : (uses.zip (wants c (.fm w f))).length = uses.length := by rw [List.length_zip]; omega
  refine walk_snoc a gc (Nat.le_trans cw (by decide)) ⟨m.gf.1, fd⟩ m.fit ?_ fun i v hi => ?_
  · show (placesN (uses.zip (wants c (.fm w f))) ls []).2.length = _
    rw [e, List.nil_append, l, zl, wl]
  · have hi : (wants c (.fm w f))[i]? = some v := hi
    have il : i < uses.length := by have := (List.getElem?_eq_some_iff.mp hi).1; omega
    obtain ⟨k, ek, kl, al⟩ := t i (uses[i], v) (List.getElem?_zip_eq_some.mpr ⟨List.getElem?_eq_getElem il, hi⟩)
    exact ⟨k, by show (placesN (uses.zip (wants c (.fm w f))) ls []).2[i]? = _; rw [e, List.nil_append]; exact ek, kl, al⟩
theorem grown_walk {ls : List Ln} (hw : Wk ls) (h : LsOk ls) (ne : ls ≠ []) (cell base : Int) : Wk (grownN ls cell base) := by
  have ok := (grown_ok h ne cell base).1
  have lp := List.length_pos_iff.mpr ne
  unfold grownN at ok ⊢
  dsimp only at ok ⊢
  have hA : ((ls.length : Int) - 1 - cell / 10 % (if 3 < (ls.length : Int) then 3 else (ls.length : Int))).toNat < ls.length := by
    have : 0 ≤ cell / 10 % (if 3 < (ls.length : Int) then 3 else (ls.length : Int)) := Int.emod_nonneg _ (by split <;> omega)
    omega
  have hB : (cell / 10 / 7 % (ls.length : Int)).toNat < ls.length := by
    have := Int.emod_nonneg (cell / 10 / 7) (show (ls.length : Int) ≠ 0 by omega)
    have := Int.emod_lt_of_pos (cell / 10 / 7) (show (0 : Int) < (ls.length : Int) by omega)
    omega
  generalize ((ls.length : Int) - 1 - cell / 10 % (if 3 < (ls.length : Int) then 3 else (ls.length : Int))).toNat = A at *
  generalize (cell / 10 / 7 % (ls.length : Int)).toNat = B at *
  split
  · rename_i z
    rw [if_pos z] at ok
    have lo := ok _ (List.mem_append_right _ List.mem_cons_self)
    refine walk_snoc hw lo.gc (Nat.le_trans lo.wc (by decide)) lo.rk.ok ?_ rfl fun i v hi => (nomatch hi)
    show (decide (_ ∈ once _) && decide (_ ∈ once _)) = true
    rw [decide_eq_true (mem_once.mpr (List.mem_append_left _ List.mem_cons_self)), decide_eq_true (mem_once.mpr (List.mem_append_right _ List.mem_cons_self))]
    rfl
  rename_i z
  have z1 : ¬ ((clAt ls A).1 = [] ∨ (clAt ls A).2 = [] ∨ (clAt ls B).1 = [] ∨ (clAt ls B).2 = []) := fun y => z (.inr y)
  have n1 : (clAt ls A).1 ≠ [] := fun y => z1 (.inl y)
  have n2 : (clAt ls A).2 ≠ [] := fun y => z1 (.inr (.inl y))
  have n3 : (clAt ls B).1 ≠ [] := fun y => z1 (.inr (.inr (.inl y)))
  have n4 : (clAt ls B).2 ≠ [] := fun y => z1 (.inr (.inr (.inr y)))
  obtain ⟨gA, wA⟩ := clAt_ok h A
  obtain ⟨gB, wB⟩ := clAt_ok h B
  have wA' : wordsS (clAt ls A).1 + wordsS (clAt ls A).2 ≤ 24 := wA
  have wB' : wordsS (clAt ls B).1 + wordsS (clAt ls B).2 ≤ 24 := wB
  have a1 := words_len (clAt ls A).1
  have a2 := words_len (clAt ls A).2
  have b1 := words_len (clAt ls B).1
  have b2 := words_len (clAt ls B).2
  split
  · refine rest_walk hw h (one_made gA.1 gA.2 n1 n2 (by omega) (by omega) _ _) (by rw [one_len]; rfl) fun k hk => ?_
    rw [List.mem_singleton.mp hk]
    exact hA
  · refine rest_walk hw h (two_made gA gB n1 n2 n3 n4 (by omega) (by omega) (by omega) (by omega) _ _) (by rw [two_len]; rfl) fun k hk => ?_
    simp only [List.mem_cons, List.not_mem_nil, or_false] at hk
    rcases hk with rfl | rfl
    · exact hA
    · exact hB
theorem fold_walk (base : Int) : ∀ (cells : List Int) (ls : List Ln), Wk ls → LsOk ls → ls ≠ [] → Wk (cells.foldl (fun ls cell => grownN ls (cell * 48271 % 1000003) base) ls)
  | [], _, h, _, _ => h
  | c :: cs, ls, h, ok, ne => by
    obtain ⟨a, b, _⟩ := grown_ok ok ne (c * 48271 % 1000003) base
    exact fold_walk base cs _ (grown_walk h ok ne _ _) a b
theorem first_walk (f : Fm) (g : f.good) (d : f.dep ≤ 3) : Wk (first0 f) := by
  have s := size_dep d
  have e : (2 : Nat) ^ 3 = 8 := by decide
  refine walk_snoc (ls := []) (l := ⟨([f], [f]), .fm .same f, []⟩) .nil ⟨gd_one g (by omega), gd_one g (by omega)⟩ ?_ ⟨g, by show f.dep ≤ 12; omega⟩ ?_ rfl fun i v hi => (nomatch hi)
  · show wordsS [f] + wordsS [f] ≤ 60
    rw [wordsS_cons, wordsS_nil]
    omega
  · show (decide (f ∈ [f]) && decide (f ∈ [f])) = true
    rw [decide_eq_true List.mem_cons_self]
    rfl
theorem chain_walk (cells : List Int) (base : Int) : Wk (chainN cells base) :=
  fold_walk base cells (first0 (formN 2 (cells.headD 0) base)) (first_walk _ (formN_good _ _ _) (formN_dep 2 _ _)) (first_ok _ _) (by unfold first0; simp)
end Lm
set_option Elab.async false
set_option linter.all false
set_option maxRecDepth 100000
set_option maxHeartbeats 400000
/-! lines written by a proof: mathematics -/
namespace Lm
open PySem PySem.Spec PyProof.Rows L2
abbrev NumT := List (Str × Nat)
def lookN (nm : NumT) (k : Str) : Option Nat := (nm.find? fun e => decide (e.1 = k)).map (·.2)
def putN (nm : NumT) (k : Str) (v : Nat) : NumT := if (nm.any fun e => decide (e.1 = k)) = true then nm.map (fun e => if e.1 = k then (e.1, v) else e) else nm ++ [(k, v)]
theorem lookN_mem {nm : NumT} {k : Str} {v : Nat} (h : lookN nm k = some v) : (k, v) ∈ nm := by
  unfold lookN at h
  cases e : nm.find? fun e => decide (e.1 = k) with
  | none => rw [e] at h; cases h
  | some x =>
    rw [e] at h
    have h : x.2 = v := Option.some.inj h
    have m := List.mem_of_find?_eq_some e
    have q := List.find?_some e
    have q : x.1 = k := of_decide_eq_true q
    rw [← q, ← h]
    exact m
theorem mem_putN {nm : NumT} {k : Str} {v : Nat} {e : Str × Nat} (h : e ∈ putN nm k v) : e ∈ nm ∨ e = (k, v) := by
  unfold putN at h
  split at h
  · obtain ⟨x, hx, rfl⟩ := List.mem_map.mp h
    by_cases c : x.1 = k
    · rw [if_pos c, c]; exact .inr rfl
    · rw [if_neg c]; exact .inl hx
  · rcases List.mem_append.mp h with h | h
    · exact .inl h
    · exact .inr (List.mem_singleton.mp h)
theorem putN_len (nm : NumT) (k : Str) (v : Nat) : (putN nm k v).length ≤ nm.length + 1 := by
  unfold putN
  split
  · rw [List.length_map]; omega
  · rw [List.length_append, List.length_singleton]; exact Nat.le_refl _
theorem lookN_putN (nm : NumT) (k : Str) (v : Nat) : lookN (putN nm k v) k = some v := by
  unfold putN
  split
  · rename_i h
    unfold lookN
    induction nm with
    | nil => cases h
    | cons e r ih =>
      rw [List.map_cons, List.find?_cons]
      by_cases c : e.1 = k
      · rw [if_pos c]
        simp [c]
      · rw [if_neg c]
        have : decide (e.1 = k) = false := decide_eq_false c
        rw [this]
        refine ih ?_
        rw [List.any_cons, this, Bool.false_or] at h
        exact h
  · rename_i h
    unfold lookN
    rw [List.find?_append]
    have : nm.find? (fun e => decide (e.1 = k)) = none := by
      rw [List.find?_eq_none]
      intro x hx hc
      exact h (List.any_eq_true.mpr ⟨x, hx, hc⟩)
    rw [this]
    simp
abbrev WSt := List Ln × NumT
def writeAll (g : Cl → Pr → WSt → WSt × Nat) : List (Cl × Pr) → WSt → List Int → WSt × List Int
  | [], st, t => (st, t)
  | x :: r, st, t => writeAll g r (g x.1 x.2 st).1 (t ++ [((g x.1 x.2 st).2 : Int)])
noncomputable def writeL : Nat → Cl → Pr → WSt → WSt × Nat
  | 0, _, _, st => (st, 0)
  | n + 1, c, p, st =>
    match lookN st.2 (clS c) with
    | some k => (st, k)
    | none => (((writeAll (writeL n) ((led c p.w p.f).zip p.inner) st []).1.1 ++ [⟨c, .fm p.w p.f, (writeAll (writeL n) ((led c p.w p.f).zip p.inner) st []).2⟩], putN (writeAll (writeL n) ((led c p.w p.f).zip p.inner) st []).1.2 (clS c) (writeAll (writeL n) ((led c p.w p.f).zip p.inner) st []).1.1.length), (writeAll (writeL n) ((led c p.w p.f).zip p.inner) st []).1.1.length)
/-- a line as the search writes it -/
structure LnS (l : Ln) : Prop where
  ok : OkC l.c
  cs : CS l.c
  rl : ∃ w f, l.r = .fm w f ∧ (w = .same ∨ w = .left ∨ w = .right) ∧ f.good ∧ f.dep ≤ 12
  ul : l.u.length ≤ 2
structure WOk (st : WSt) : Prop where
  wk : Wk st.1
  ls : ∀ l ∈ st.1, LnS l
  nm : ∀ e ∈ st.2, e.2 < st.1.length ∧ clS (clAt st.1 e.2) = e.1
/-- some line tells i -/
def Told (ls : List Ln) (i : Nat) : Prop := ∃ (j : Nat) (l : Ln), i < j ∧ ls[j]? = some l ∧ (i : Int) ∈ l.u
/-- what writing does -/
structure Wrote (st st' : WSt) (k n : Nat) (c : Cl) : Prop where
  ok : WOk st'
  old : ∃ ms, st'.1 = st.1 ++ ms
  lt : k < st'.1.length
  al : Alike (clAt st'.1 k) c
  told : ∀ i, st.1.length ≤ i → i < st'.1.length → i ≠ k → Told st'.1 i
  len : st'.1.length ≤ st.1.length + n
  nlen : st'.2.length + st.1.length ≤ st.2.length + st'.1.length
theorem told_app {ls : List Ln} {i : Nat} (h : Told ls i) (ms : List Ln) : Told (ls ++ ms) i := by
  obtain ⟨j, l, a, b, c⟩ := h
  exact ⟨j, l, a, by rw [List.getElem?_append_left (List.getElem?_eq_some_iff.mp b).1]; exact b, c⟩
/-- the turns over what is wanted, beside their proofs -/
theorem writeAll_ok {g : Cl → Pr → WSt → WSt × Nat} {cn : Pr → Nat} : ∀ (ps : List (Cl × Pr)) (st : WSt) (t : List Int), WOk st → (∀ p ∈ ps, ∀ st, WOk st → Wrote st (g p.1 p.2 st).1 (g p.1 p.2 st).2 (cn p.2) p.1) →
    WOk (writeAll g ps st t).1 ∧ (∃ ms, (writeAll g ps st t).1.1 = st.1 ++ ms) ∧ (∃ vs, (writeAll g ps st t).2 = t ++ vs ∧ vs.length = ps.length ∧ (∀ (i : Nat) (p : Cl × Pr), ps[i]? = some p → ∃ k : Nat, vs[i]? = some (k : Int) ∧ k < (writeAll g ps st t).1.1.length ∧ Alike (clAt (writeAll g ps st t).1.1 k) p.1) ∧
      ∀ i, st.1.length ≤ i → i < (writeAll g ps st t).1.1.length → Told (writeAll g ps st t).1.1 i ∨ (i : Int) ∈ vs) ∧ (writeAll g ps st t).1.1.length ≤ st.1.length + (ps.map fun p => cn p.2).sum ∧ (writeAll g ps st t).1.2.length + st.1.length ≤ st.2.length + (writeAll g ps st t).1.1.length
  | [], st, t, h, _ => ⟨h, ⟨[], (List.append_nil _).symm⟩, ⟨[], (List.append_nil _).symm, rfl, fun i p e => (nomatch e), fun i a b => absurd b (Nat.not_lt.mpr a)⟩, Nat.le_refl _, Nat.le_refl _⟩
  | p :: r, st, t, h, hp => by
    have w := hp p List.mem_cons_self st h
    rw [writeAll]
    obtain ⟨a, ⟨ms, b⟩, ⟨vs, v1, v2, v3, v4⟩, d1, d2⟩ := writeAll_ok r (g p.1 p.2 st).1 (t ++ [((g p.1 p.2 st).2 : Int)]) w.ok fun q hq => hp q (List.mem_cons_of_mem _ hq)
    obtain ⟨ms0, b0⟩ := w.old
    have l0 := w.len
    have l1 := w.nlen
    have lt := w.lt
    refine ⟨a, ⟨ms0 ++ ms, by rw [b, b0, List.append_assoc]⟩, ⟨((g p.1 p.2 st).2 : Int) :: vs, by rw [v1, List.append_assoc]; rfl, by rw [List.length_cons, List.length_cons, v2], fun i q hq => ?_, fun i a1 a2 => ?_⟩, ?_, by omega⟩
    · cases i with
      | zero =>
        cases hq
        refine ⟨_, rfl, by rw [b, List.length_append]; omega, ?_⟩
        rw [b, clAt_app lt]
        exact w.al
      | succ i => exact v3 i q hq
    · by_cases z : i < (g p.1 p.2 st).1.1.length
      · by_cases e : i = (g p.1 p.2 st).2
        · rw [e]; exact .inr List.mem_cons_self
        · refine .inl ?_
          rw [b]
          exact told_app (w.told i a1 z e) ms
      · rcases v4 i (by omega) a2 with k | k
        · exact .inl k
        · exact .inr (List.mem_cons_of_mem _ k)
    · rw [List.map_cons, List.sum_cons]
      omega
theorem write_ok : ∀ (n : Nat) (c : Cl) (p : Pr) (st : WSt), PrOk n p → Sub p.c c → OkC c → CS c → WOk st → Wrote st (writeL n c p st).1 (writeL n c p st).2 (cnt n p) c
  | 0, c, p, st, h, _, _, _, _ => h.elim
  | n + 1, c, p, st, ⟨hw, gf, df, ft, il, hi⟩, sb, oc, cs, wo => by
    rw [writeL]
    cases e : lookN st.2 (clS c) with
    | some k =>
      have m := lookN_mem e
      obtain ⟨m1, m2⟩ := wo.nm _ m
      have lk : LnS (st.1[k]'m1) := wo.ls _ (List.getElem_mem m1)
      have ek : clAt st.1 k = (st.1[k]'m1).c := clAt_get (List.getElem?_eq_getElem m1)
      refine ⟨wo, ⟨[], (List.append_nil _).symm⟩, m1, ?_, fun i a b _ => absurd b (Nat.not_lt.mpr a), by show st.1.length ≤ _; omega, Nat.le_refl _⟩
      have q : clS (clAt st.1 k) = clS c := m2
      rw [ek] at q ⊢
      exact (clS_eq lk.ok.1 oc.1).1 q
    | none =>
      have ftc := fits_mono sb ft
      have wled := led_len (c := c) (w := p.w) (f := p.f)
      have wants_mid' := wants_mid (c := c) (ru := .fm p.w p.f) oc ⟨gf, df⟩ ftc
      have okl : ∀ l ∈ led c p.w p.f, OkC l ∧ CS l := fun l hl => by
        have cl := led_CS cs hw ftc hl
        refine ⟨⟨cl.gd, ?_⟩, cl⟩
        rcases hw with z | z
        · rw [z] at hl; cases hl
        · have := led_words z ftc hl
          have := oc.2
          omega
      have main := writeAll_ok (g := writeL n) (cn := cnt n) ((led c p.w p.f).zip p.inner) st [] wo fun x hx st' wo' => by
        obtain ⟨i, hix⟩ := List.getElem?_of_mem hx
        obtain ⟨h1, h2⟩ := List.getElem?_zip_eq_some.mp hix
        obtain ⟨a, l, b, s⟩ := hi i x.2 h2
        obtain ⟨l', b', s'⟩ := led_mono sb b
        rw [h1] at b'
        cases b'
        obtain ⟨o1, o2⟩ := okl x.1 (List.mem_of_getElem? h1)
        exact write_ok n x.1 x.2 st' a (s.trans s') o1 o2 wo'
      dsimp only
      revert main
      generalize writeAll (writeL n) ((led c p.w p.f).zip p.inner) st [] = R
      rintro ⟨a, ⟨ms, b⟩, ⟨vs, v1, v2, v3, v4⟩, d1, d2⟩
      rw [List.nil_append] at v1
      have zl : ((led c p.w p.f).zip p.inner).length = (led c p.w p.f).length := by rw [List.length_zip]; omega
      have pl := put_len (w := p.w) (f := p.f)
      have lt0 : R.1.1.length < (R.1.1 ++ [(⟨c, .fm p.w p.f, R.2⟩ : Ln)]).length := by rw [List.length_append, List.length_singleton]; omega
      have at0 : (R.1.1 ++ [(⟨c, .fm p.w p.f, R.2⟩ : Ln)])[R.1.1.length]? = some ⟨c, .fm p.w p.f, R.2⟩ := by rw [List.getElem?_append_right (Nat.le_refl _), Nat.sub_self]; rfl
      have cl0 : clAt (R.1.1 ++ [(⟨c, .fm p.w p.f, R.2⟩ : Ln)]) R.1.1.length = c := clAt_get at0
      refine ⟨⟨?_, fun l hl => ?_, fun x hx => ?_⟩, ⟨ms ++ [⟨c, .fm p.w p.f, R.2⟩], by show R.1.1 ++ _ = _; rw [b, List.append_assoc]⟩, lt0, by show Alike (clAt (R.1.1 ++ _) _) c; rw [cl0]; exact alike_refl c, fun i a1 a2 a3 => ?_, ?_, ?_⟩
      · refine walk_snoc a.wk oc.1 oc.2 ⟨gf, df⟩ ftc (by show R.2.length = (led c p.w p.f).length; rw [v1, v2, zl]) fun i w hw' => ?_
        have hw' : (led c p.w p.f)[i]? = some w := hw'
        have il2 : i < p.inner.length := by have := (List.getElem?_eq_some_iff.mp hw').1; omega
        obtain ⟨k, k1, k2, k3⟩ := v3 i (w, p.inner[i]) (List.getElem?_zip_eq_some.mpr ⟨hw', List.getElem?_eq_getElem il2⟩)
        exact ⟨k, by show R.2[i]? = _; rw [v1]; exact k1, k2, k3⟩
      · rcases List.mem_append.mp hl with hl | hl
        · exact a.ls l hl
        · rw [List.mem_singleton.mp hl]
          exact ⟨oc, cs, ⟨p.w, p.f, rfl, hw, gf, df⟩, by show R.2.length ≤ 2; rw [v1, v2, zl, wled]; exact pl⟩
      · rcases mem_putN hx with z | z
        · obtain ⟨y1, y2⟩ := a.nm x z
          refine ⟨by show x.2 < (R.1.1 ++ _).length; rw [List.length_append]; omega, ?_⟩
          show clS (clAt (R.1.1 ++ _) x.2) = x.1
          rw [clAt_app y1]
          exact y2
        · subst z
          refine ⟨lt0, ?_⟩
          show clS (clAt (R.1.1 ++ _) R.1.1.length) = clS c
          rw [cl0]
      · have a2 : i < (R.1.1 ++ [(⟨c, .fm p.w p.f, R.2⟩ : Ln)]).length := a2
        rw [List.length_append, List.length_singleton] at a2
        have a3 : i ≠ R.1.1.length := a3
        rcases v4 i a1 (by omega) with k | k
        · exact told_app k _
        · exact ⟨R.1.1.length, _, by omega, at0, by show (i : Int) ∈ R.2; rw [v1]; exact k⟩
      · show (R.1.1 ++ _).length ≤ st.1.length + (1 + (p.inner.map (cnt n)).sum)
        rw [List.length_append, List.length_singleton]
        have e2 : ((led c p.w p.f).zip p.inner).map (fun x => cnt n x.2) = p.inner.map (cnt n) := by
          have : ((led c p.w p.f).zip p.inner).map (fun x => cnt n x.2) = (((led c p.w p.f).zip p.inner).map Prod.snd).map (cnt n) := by rw [List.map_map]; rfl
          rw [this, List.map_snd_zip (by omega)]
        rw [e2] at d1
        omega
      · show (putN R.1.2 (clS c) R.1.1.length).length + st.1.length ≤ st.2.length + (R.1.1 ++ _).length
        rw [List.length_append, List.length_singleton]
        have := putN_len R.1.2 (clS c) R.1.1.length
        omega
/-- decided, told -/
noncomputable def decL (c : Cl) (p : Pr) : List Ln := (writeL 61 c p ([], [])).1.1
theorem dec_ok {c : Cl} {p : Pr} (h : PrOk 61 p) (s : Sub p.c c) (oc : OkC c) (cs : CS c) : Wk (decL c p) ∧ (∀ l ∈ decL c p, LnS l) ∧ (∃ ls l, decL c p = ls ++ [l] ∧ l.c = c) ∧ (decL c p).length ≤ cnt 61 p ∧ ∀ i, i + 1 < (decL c p).length → Told (decL c p) i := by
  have w := write_ok 61 c p ([], []) h s oc cs ⟨.nil, fun l hl => (nomatch hl), fun e he => (nomatch he)⟩
  have last : ∃ ls l, decL c p = ls ++ [l] ∧ l.c = c ∧ (writeL 61 c p ([], [])).2 = ls.length := by
    unfold decL
    rw [writeL]
    exact ⟨_, _, rfl, rfl, rfl⟩
  obtain ⟨ls, l, e, lc, e2⟩ := last
  refine ⟨w.ok.wk, w.ok.ls, ⟨ls, l, e, lc⟩, ?_, fun i hi => w.told i (Nat.zero_le _) ?_ ?_⟩
  · have := w.len
    show (writeL 61 c p ([], [])).1.1.length ≤ _
    have z : (([], []) : WSt).1.length = 0 := rfl
    omega
  · exact Nat.lt_of_succ_lt hi
  · rw [e2]
    rw [e, List.length_append, List.length_singleton] at hi
    omega
end Lm
set_option Elab.async false
set_option linter.all false
set_option maxRecDepth 100000
set_option maxHeartbeats 1000000
namespace Lm
open PySem PySem.Spec PyProof.Rows L2 LamX
def numK (nm : NumT) : List (Key × V) := nm.map fun e => (Sum.inr e.1, V.int (e.2 : Int))
theorem numK_val : ∀ (nm : NumT) (k : Str), valV (numK nm) (Sum.inr k : Key) = (lookN nm k).map fun n => V.int (n : Int)
  | [], k => rfl
  | e :: r, k => by
    have ih := numK_val r k
    unfold valV lookN at ih ⊢
    unfold numK at ih ⊢
    rw [List.map_cons, List.find?_cons, List.find?_cons]
    by_cases z : e.1 = k
    · rw [decide_eq_true z, decide_eq_true (show (Sum.inr e.1 : Key) = Sum.inr k by rw [z])]
      rfl
    · rw [decide_eq_false z, decide_eq_false (show ¬ (Sum.inr e.1 : Key) = Sum.inr k from fun y => z (Sum.inr.inj y))]
      exact ih
theorem numK_any (nm : NumT) (k : Str) : ((numK nm).any fun kv => decide (kv.1 = (Sum.inr k : Key))) = nm.any fun e => decide (e.1 = k) := by
  unfold numK
  rw [List.any_map]
  congr 1
  funext e
  exact decide_eq_decide.mpr ⟨fun y => Sum.inr.inj y, fun y => by show (Sum.inr e.1 : Key) = _; rw [y]⟩
theorem numK_put (nm : NumT) (k : Str) (n : Nat) : putK (numK nm) (Sum.inr k : Key) (V.int (n : Int)) = numK (putN nm k n) := by
  unfold putK putN
  rw [numK_any]
  by_cases z : (nm.any fun e => decide (e.1 = k)) = true
  · rw [if_pos z, if_pos z]
    unfold numK
    rw [List.map_map, List.map_map]
    refine List.map_congr_left fun e _ => ?_
    show (if (Sum.inr e.1 : Key) = Sum.inr k then ((Sum.inr e.1 : Key), V.int (n : Int)) else (Sum.inr e.1, V.int (e.2 : Int))) = (Sum.inr (if e.1 = k then (e.1, n) else e).1, V.int (((if e.1 = k then (e.1, n) else e).2 : Nat) : Int))
    by_cases y : e.1 = k
    · rw [if_pos y, if_pos (by rw [y])]
    · rw [if_neg y, if_neg fun u => y (Sum.inr.inj u)]
  · rw [if_neg z, if_neg z]
    unfold numK
    rw [List.map_append]
    rfl
theorem paired_at {α β : Type} {R : α → β → Prop} : ∀ {l : List α} {m : List β} {i : Nat} {a : α} {b : β}, Paired R l m → l[i]? = some a → m[i]? = some b → R a b
  | _, _, _, _, _, .nil, h, _ => by cases h
  | _, _, 0, _, _, .cons h _, e1, e2 => by cases e1; cases e2; exact h
  | _, _, i + 1, _, _, .cons _ t, e1, e2 => paired_at t e1 e2
theorem NewCl.older' {K : PySem.W.Frag} {H00 H0 H : Hp} {v : V} {c : Cl} (h : NewCl K H0 H v c) (o : ∀ b, H0 b = none → H00 b = none) : NewCl K H00 H v c := by
  obtain ⟨t, a, b, xs, ys, h1, h2, h3, h4, h5⟩ := h
  exact ⟨t, a, b, xs, ys, h1, h2, o a h3, o b h4, h5⟩
/-- a line as it is told: what can be changed of it is new -/
def LnV (K : PySem.W.Frag) (H0 G : Hp) (v : V) (l : Ln) : Prop := ∃ (t u : Addr) (vc vr : V), v = .ref t ∧ SqT K G t [vc, vr, .ref u] ∧ NewCl K H0 G vc l.c ∧ Dp K G vr l.r.toD ∧ H0 u = none ∧ G u = some (.lst (l.u.map V.int))
def LnVs (K : PySem.W.Frag) (H0 G : Hp) (vs : List V) (ls : List Ln) : Prop := Paired (LnV K H0 G) vs ls
theorem LnV.same {K : PySem.W.Frag} {H0 G G' : Hp} {v : V} {l : Ln} (h : LnV K H0 G v l) (e : Same G G') : LnV K H0 G' v l := by
  obtain ⟨t, u, vc, vr, h1, h2, h3, h4, h5, h6⟩ := h
  exact ⟨t, u, vc, vr, h1, sqT_same e h2, h3.same e, dp_same e _ _ h4, h5, e _ _ h6⟩
theorem LnVs.same {K : PySem.W.Frag} {H0 G G' : Hp} {vs : List V} {ls : List Ln} (h : LnVs K H0 G vs ls) (e : Same G G') : LnVs K H0 G' vs ls := paired_imp (fun _ _ z => LnV.same z e) h
theorem NewCl.seen {K : PySem.W.Frag} {M : Addr → Bool} {H00 H0 H : Hp} {v : V} {c : Cl} (hid : Hid M H0) (e : Same H0 H) (h : NewCl K H0 H v c) (o : ∀ b, H0 b = none → H00 b = none) : NewCl K H00 (Lm.vis M H) v c := by
  obtain ⟨t, a, b, xs, ys, h1, h2, h3, h4, h5, h6, h7, h8⟩ := h
  have tk := (hid.same e).tk (K := K)
  have sv : ∀ {b : Addr} {o : HO}, H0 b = none → H b = some o → Lm.vis M H b = some o := fun n q => by unfold Lm.vis; rw [hid.non n, if_neg Bool.false_ne_true]; exact q
  exact ⟨t, a, b, xs, ys, h1, tk _ _ h2, o _ h3, o _ h4, sv h3 h5, sv h4 h6, fms_keep tk _ _ h7, fms_keep tk _ _ h8⟩
/-- only the lines and their numbers are written -/
def Wrt (L N : Addr) (H H' : Hp) : Prop := ∀ b o, H b = some o → b ≠ L → b ≠ N → H' b = some o
def lnCap : Nat := 600000
def spWrite (K : PySem.W.Frag) (C : Addr) (n : Nat) : Sp := fun vs H Q _ => ∃ (M : Addr → Bool) (H0 : Hp) (vc vp : V) (L N : Addr) (ws : List V) (c : Cl) (p : Pr) (st : WSt), vs = [vc, vp, .ref L, .ref N] ∧ Hid M H ∧ M L = true ∧ M N = true ∧ L ≠ N ∧ (∀ b, H b = none → H0 b = none) ∧
  H L = some (.lst ws) ∧ H N = some (.dK (numK st.2)) ∧ LnVs K H0 (vis M H) ws st.1 ∧ NewCl K H0 (vis M H) vc c ∧ PrV K C (vis M H) n vp p ∧ PrOk n p ∧ Sub p.c c ∧ OkC c ∧ CS c ∧ WOk st ∧ st.1.length + cnt n p ≤ lnCap ∧ st.2.length ≤ st.1.length ∧
  ∀ H' ws', Wrt L N H H' → H' L = some (.lst ws') → H' N = some (.dK (numK (writeL n c p st).1.2)) → LnVs K H0 (vis M H') ws' (writeL n c p st).1.1 → Q (.int ((writeL n c p st).2 : Int)) H'
section
variable {P : Program} {w : World} {K : PySem.W.Frag} {mg : Str → Option Value} {base : Heap} {f : Addr} {fd : FuncData}
theorem scWriteLines : FnScope ["claim", "proof", "lines", "numbers", "text", "told", "asked", "inner"] ["claim", "proof", "lines", "numbers"] (defScope sWriteLines) := ⟨rfl, rfl, rfl, by decide +kernel, rfl, by decide +kernel, by decide +kernel⟩
theorem ok_write {C : Addr} {n : Nat} (D : Df K mg "_write_lines" sWriteLines ["claim", "proof", "lines", "numbers"] f fd) (B : Blt mg) (b_zip : mg "zip" = none) (PC : PCls K C) (h_claim_spelled : Has P w K mg base 16 "claim_spelled" ["claim"] (spClaimSp K)) (h_led_to : Has P w K mg base 3 "led_to" ["claim", "rule"] (spLed K))
    (h_write_lines : Has P w K mg base (n + 16) "_write_lines" ["claim", "proof", "lines", "numbers"] (spWrite K C n)) : FnOk P w K mg base CX0 (n + 17) f fd ["claim", "proof", "lines", "numbers"] (spWrite K C (n + 1)) := by
  refine D.fn.ok scWriteLines (fun vs H Q E h => ?_) (fun cdv A outer s H vs Q E hr h => ?_)
  · obtain ⟨M, H0, vc, vp, L, N, ws, c, p, st, rfl, _⟩ := h
    rfl
  obtain ⟨M, H0, vc, vp, L, N, ws, c, p, st, rfl, hid, mL, mN, nLN, hn0, hL, hN, hws, hvc, hvp, pok, sb, oc, cs, wo, cap, nlen, q⟩ := h
  have hr17 : Room 16 (A.deeper (envOfC "_write_lines" (defScope sWriteLines) s.heap.objs.size f cdv)) := hr.mono (by omega)
  have hu1 : (A.deeper (envOfC "_write_lines" (defScope sWriteLines) s.heap.objs.size f cdv)).units + 1 < cLine := by have := hr.un; omega
  refine ⟨_, (pss_cons (ps_set (i := 4) scWriteLines.nd rfl (by first | exact Or.inl rfl | exact Or.inr rfl) (pe_callH h_claim_spelled (hr17.mono (by omega)) (by rfl) (pa_cons (pv 0) pa_nil)))
    (pss_cons (ps_if (pt_cmp (pc_dnotin hu1 (pv 4) (pv 3))) (pss_cons (ps_set (i := 5) scWriteLines.nd rfl (by first | exact Or.inl rfl | exact Or.inr rfl) (pe_lst pa_nil))
    (pss_cons (ps_for PassesOwn.never rfl (pi_zip (by rfl) b_zip (pa_cons (pe_callH h_led_to (hr17.mono (by omega)) (by rfl) (pa_cons (pv 0) (pa_cons (pe_fldK (K := K) rfl (pv 1) rfl) pa_nil))) (pa_cons (pe_fldK (K := K) rfl (pv 1) rfl) pa_nil))) (pg_tup rfl (pgs_cons (pg_name (i := 6) scWriteLines.nd rfl (by first | exact Or.inl rfl | exact Or.inr rfl)) (pgs_cons (pg_name (i := 7) scWriteLines.nd rfl (by first | exact Or.inl rfl | exact Or.inr rfl)) pgs_nil))) (pss_one (ps_expr (pe_bm PySem.F.plainAttrs_list PySem.F.slot_list_append PySem.F.type_list_append mt_append (pv 5) (pa_cons (pe_callH h_write_lines hr (by rfl) (pa_cons (pv 6) (pa_cons (pv 7) (pa_cons (pv 2) (pa_cons (pv 3) pa_nil))))) pa_nil)))))
    (pss_cons (ps_dput hu1 (pv 3) (pv 4) (pe_callB (r := rLn K) call_len_seq (by rfl) B.len PySem.boot_len (pa_cons (pv 2) pa_nil)) (by rfl))
    (pss_one (ps_expr (pe_bm PySem.F.plainAttrs_list PySem.F.slot_list_append PySem.F.type_list_append mt_append (pv 2) (pa_cons (pe_tup (pa_cons (pv 0) (pa_cons (pe_fldK (K := K) rfl (pv 1) rfl) (pa_cons (pv 5) pa_nil)))) pa_nil))))))) pss_nil)
    (pss_one (ps_ret (pe_dget hu1 (pv 3) (pv 4) (fun _ _ => rfl)))))), ?_⟩
  have t0 : (L2.start ["claim", "proof", "lines", "numbers", "text", "told", "asked", "inner"] [vc, vp, .ref L, .ref N])[0]? = some (some vc) := rfl
  have t1 : (L2.start ["claim", "proof", "lines", "numbers", "text", "told", "asked", "inner"] [vc, vp, .ref L, .ref N])[1]? = some (some vp) := rfl
  have t2 : (L2.start ["claim", "proof", "lines", "numbers", "text", "told", "asked", "inner"] [vc, vp, .ref L, .ref N])[2]? = some (some (.ref L)) := rfl
  have t3 : (L2.start ["claim", "proof", "lines", "numbers", "text", "told", "asked", "inner"] [vc, vp, .ref L, .ref N])[3]? = some (some (.ref N)) := rfl
  have tl : (L2.start ["claim", "proof", "lines", "numbers", "text", "told", "asked", "inner"] [vc, vp, .ref L, .ref N]).length = 8 := rfl
  generalize L2.start ["claim", "proof", "lines", "numbers", "text", "told", "asked", "inner"] [vc, vp, .ref L, .ref N] = σ at t0 t1 t2 t3 tl
  dsimp only [tSeq]
  have gc := oc.1
  have wc := oc.2
  have wce : wordsC c = wordsS c.1 + wordsS c.2 := rfl
  have lw1 := words_len c.1
  have lw2 := words_len c.2
  refine ⟨vc, t0, vc, c.1, c.2, rfl, dp_same vis_sub _ _ hvc.dp, gc.1, gc.2, by omega, by omega, by omega, by omega, fun y H1 hy e1 => ?_⟩
  have ey := clS_is gc hy
  subst ey
  dsimp only [gName, tSeq]
  have hid1 := hid.same e1
  have hL1 := e1 _ _ hL
  have hN1 := e1 _ _ hN
  have lnc : lnCap = 600000 := rfl
  have szc := sizeLine_eq
  have u0 : (σ.set 4 (some (.str (clS c))))[0]? = some (some vc) := by rw [List.getElem?_set_ne (by decide)]; exact t0
  have u1 : (σ.set 4 (some (.str (clS c))))[1]? = some (some vp) := by rw [List.getElem?_set_ne (by decide)]; exact t1
  have u2 : (σ.set 4 (some (.str (clS c))))[2]? = some (some (.ref L)) := by rw [List.getElem?_set_ne (by decide)]; exact t2
  have u3 : (σ.set 4 (some (.str (clS c))))[3]? = some (some (.ref N)) := by rw [List.getElem?_set_ne (by decide)]; exact t3
  have u4 : (σ.set 4 (some (.str (clS c))))[4]? = some (some (.str (clS c))) := List.getElem?_set_self (by omega)
  have ul : (σ.set 4 (some (.str (clS c)))).length = 8 := by rw [List.length_set]; exact tl
  generalize σ.set 4 (some (.str (clS c))) = σ1 at u0 u1 u2 u3 u4 ul ⊢
  have gN := DGet.k (k := Sum.inr (clS c)) hN1
  rw [numK_val] at gN
  refine ⟨_, u4, _, u3, N, _, rfl, gN, _, rfl, ?_⟩
  cases e : lookN st.2 (clS c) with
  | some k =>
    refine iteF ?_
    have ew : writeL (n + 1) c p st = (st, k) := by rw [writeL, e]
    rw [ew] at q
    rw [e] at gN
    refine ⟨_, u3, _, u4, N, _, rfl, gN, ?_⟩
    exact q H1 ws (fun b o z _ _ => e1 _ _ z) hL1 hN1 (LnVs.same hws (vis_same e1))
  | none =>
    refine iteT ?_
    have ew : writeL (n + 1) c p st = (((writeAll (writeL n) ((led c p.w p.f).zip p.inner) st []).1.1 ++ [⟨c, .fm p.w p.f, (writeAll (writeL n) ((led c p.w p.f).zip p.inner) st []).2⟩], putN (writeAll (writeL n) ((led c p.w p.f).zip p.inner) st []).1.2 (clS c) (writeAll (writeL n) ((led c p.w p.f).zip p.inner) st []).1.1.length), (writeAll (writeL n) ((led c p.w p.f).zip p.inner) st []).1.1.length) := by rw [writeL, e]
    rw [ew] at q
    obtain ⟨o, dx, l, vr, vi, wl, rfl, ho, hl, hvr, hvpc, lwl, hin⟩ := hvp
    obtain ⟨hw, gf, df, ft, il, hi⟩ := pok
    have ftc := fits_mono sb ft
    have nsg : (p.w = .left ∨ p.w = .right) → p.f.isSg = false := fun y => by
      rcases y with y | y
      · rw [y] at ftc
        have ftc : (decide (p.f ∈ c.1) && !p.f.isSg) = true := ftc
        rw [Bool.and_eq_true] at ftc
        simpa using ftc.2
      · rw [y] at ftc
        have ftc : (decide (p.f ∈ c.2) && !p.f.isSg) = true := ftc
        rw [Bool.and_eq_true] at ftc
        simpa using ftc.2
    have sh1 : Sh c.1 := gc.1.sh
    have sh2 : Sh c.2 := gc.2.sh
    have okl : ∀ l ∈ led c p.w p.f, OkC l ∧ CS l := fun l hl => by
      have cl := led_CS cs hw ftc hl
      refine ⟨⟨cl.gd, ?_⟩, cl⟩
      rcases hw with z | z
      · rw [z] at hl; cases hl
      · have := led_words z ftc hl
        omega
    have ll : (led c p.w p.f).length = p.inner.length := by rw [led_len, il]
    have l2 : (led c p.w p.f).length ≤ 2 := by rw [led_len]; exact put_len
    have zsum : (((led c p.w p.f).zip p.inner).map fun x => cnt n x.2) = p.inner.map (cnt n) := by
      have : ((led c p.w p.f).zip p.inner).map (fun x => cnt n x.2) = (((led c p.w p.f).zip p.inner).map Prod.snd).map (cnt n) := by rw [List.map_map]; rfl
      rw [this, List.map_snd_zip (by omega)]
    have cap : st.1.length + (1 + (((led c p.w p.f).zip p.inner).map fun x => cnt n x.2).sum) ≤ lnCap := by rw [zsum]; exact cap
    have zl : ((led c p.w p.f).zip p.inner).length = p.inner.length := by rw [List.length_zip]; omega
    have step : ∀ (i : Nat) (x : Cl × Pr), ((led c p.w p.f).zip p.inner)[i]? = some x → (led c p.w p.f)[i]? = some x.1 ∧ p.inner[i]? = some x.2 ∧ PrOk n x.2 ∧ Sub x.2.c x.1 ∧ OkC x.1 ∧ CS x.1 := fun i x hx => by
      obtain ⟨h1, h2⟩ := List.getElem?_zip_eq_some.mp hx
      obtain ⟨a, l, b, s⟩ := hi i x.2 h2
      obtain ⟨l', b', s'⟩ := led_mono sb b
      rw [h1] at b'
      cases b'
      obtain ⟨o1, o2⟩ := okl x.1 (List.mem_of_getElem? h1)
      exact ⟨h1, h2, a, s.trans s', o1, o2⟩
    generalize hps : (led c p.w p.f).zip p.inner = ps at q cap zl step
    -- told
    refine ⟨sl1000 (by show 0 ≤ 100000; decide), fun U nU => ?_⟩
    dsimp only [gName, tSeq]
    have nU0 : H U = none := e1.free nU
    have nMU : M U = false := hid1.non nU
    have hid2 := hid_or (hid1.same (same_new nU _)) (upd_same (H := H1) (a := U) (o := .lst []))
    have sv2 : Same (vis M H) (vis (fun b => M b || b == U) (upd H1 U (.lst []))) := (vis_same e1).trans (same_vis_or nU (same_new nU _))
    have mU : (fun b => M b || b == U) U = true := by simp
    have leM : ∀ H', Same (vis (fun b => M b || b == U) H') (vis M H') := fun H' => vis_or_same
    have mL1 : (fun b => M b || b == U) L = true := by simp [mL]
    have mN1 : (fun b => M b || b == U) N = true := by simp [mN]
    generalize (fun b => M b || b == U) = M1 at hid2 sv2 mU leM mL1 mN1
    have nUL : U ≠ L := fun z => by rw [z, hL1] at nU; cases nU
    have nUN : U ≠ N := fun z => by rw [z, hN1] at nU; cases nU
    have x0 : (σ1.set 5 (some (.ref U)))[0]? = some (some vc) := by rw [List.getElem?_set_ne (by decide)]; exact u0
    have x1 : (σ1.set 5 (some (.ref U)))[1]? = some (some (.ref o)) := by rw [List.getElem?_set_ne (by decide)]; exact u1
    have x2 : (σ1.set 5 (some (.ref U)))[2]? = some (some (.ref L)) := by rw [List.getElem?_set_ne (by decide)]; exact u2
    have x3 : (σ1.set 5 (some (.ref U)))[3]? = some (some (.ref N)) := by rw [List.getElem?_set_ne (by decide)]; exact u3
    have x4 : (σ1.set 5 (some (.ref U)))[4]? = some (some (.str (clS c))) := by rw [List.getElem?_set_ne (by decide)]; exact u4
    have x5 : (σ1.set 5 (some (.ref U)))[5]? = some (some (.ref U)) := List.getElem?_set_self (by omega)
    have xl : (σ1.set 5 (some (.ref U))).length = 8 := by rw [List.length_set]; exact ul
    generalize σ1.set 5 (some (.ref U)) = σ2 at x0 x1 x2 x3 x4 x5 xl ⊢
    -- what is wanted, and the proofs of it
    refine ⟨vc, x0, .ref o, x1, o, C, dx, _, vr, rfl, vis_sub _ _ (sv2 _ _ ho), PC.cl, PC.nr, prF_rule _ _ _, M1, vc, vr, c, p.w, p.f, rfl, hid2, dp_same sv2 _ _ hvc.dp, dp_same sv2 _ _ hvr, sh1, sh2, by omega, by omega, by omega, nsg, fun pl ys H3 e3 npl hpl hys => ?_⟩
    have sv3 : Same (vis M H) (vis M1 H3) := sv2.trans (vis_same e3)
    have n1 : ∀ b, H3 b = none → H1 b = none := fun b z => upd_nonX (e3.free z)
    have n0 : ∀ b, H3 b = none → H b = none := fun b z => e1.free (n1 b z)
    have hU3 : H3 U = some (.lst []) := e3 _ _ upd_same
    have nplU : pl ≠ U := fun z => by rw [z, upd_same] at npl; cases npl
    have mpl : M1 pl = false := hid2.non npl
    have vpl : vis M1 H3 pl = some (.lst ys) := by unfold vis; rw [mpl, if_neg Bool.false_ne_true]; exact hpl
    have hys3 : Paired (NewCl K H0 (vis M1 H3)) ys (led c p.w p.f) := paired_imp (fun v c z => NewCl.seen hid2 e3 (z.older' fun q y => upd_nonX y) fun b y => hn0 b (e1.free (upd_nonX y))) hys
    have ly : ys.length = (led c p.w p.f).length := Paired.length hys3
    have hid3 := hid2.same e3
    refine ⟨.ref o, x1, o, C, dx, _, .ref l, rfl, vis_sub _ _ (sv3 _ _ ho), PC.cl, PC.ni, prF_inner _ _ _, pl, l, ys, wl, rfl, SqL.of hpl, SqL.of (vis_sub _ _ (sv3 _ _ hl)), ?_⟩
    refine ⟨fun i m σ' Hn => m = ys.length - i ∧ i ≤ ys.length ∧ σ'.length = 8 ∧ σ'[0]? = some (some vc) ∧ σ'[1]? = some (some (.ref o)) ∧ σ'[2]? = some (some (.ref L)) ∧ σ'[3]? = some (some (.ref N)) ∧ σ'[4]? = some (some (.str (clS c))) ∧ σ'[5]? = some (some (.ref U)) ∧
      ∃ (wsi : List V) (sti : WSt) (ti : List Int), (∀ b o, H3 b = some o → b ≠ L → b ≠ N → b ≠ U → Hn b = some o) ∧ Hid M1 Hn ∧ (∀ b, Hn b = none → H3 b = none) ∧ Hn L = some (.lst wsi) ∧ Hn N = some (.dK (numK sti.2)) ∧ Hn U = some (.lst (ti.map V.int)) ∧ ti.length = i ∧ LnVs K H0 (vis M1 Hn) wsi sti.1 ∧ WOk sti ∧
        writeAll (writeL n) ps st [] = writeAll (writeL n) (ps.drop i) sti ti ∧ sti.1.length + ((ps.drop i).map fun x => cnt n x.2).sum ≤ st.1.length + (ps.map fun x => cnt n x.2).sum ∧ sti.2.length ≤ sti.1.length,
      ⟨_, rfl, Nat.zero_le _, xl, x0, x1, x2, x3, x4, x5, ws, st, [], fun b o z _ _ _ => z, hid3, fun b z => z, e3 _ _ ((upd_ne nUL.symm).trans hL1), e3 _ _ ((upd_ne nUN.symm).trans hN1), hU3, rfl, LnVs.same hws sv3, wo, rfl, Nat.le_refl _, nlen⟩, ?_⟩
    rintro i m σ' Hn ⟨rfl, ile, zl', z0, z1, z2, z3, z4, z5, wsi, sti, ti, keep, hidn, old, hLn, hNn, hUn, lti, hlns, wok, eW, lim, nl⟩
    have svn : Same (vis M1 H3) (vis M1 Hn) := fun b o z => by
      unfold vis at z ⊢
      split at z
      · cases z
      · rename_i y
        rw [if_neg y]
        exact keep b o z (fun x => y (by rw [x]; exact mL1)) (fun x => y (by rw [x]; exact mN1)) fun x => y (by rw [x]; exact mU)
    have hpln : Hn pl = some (.lst ys) := vis_sub _ _ (svn _ _ vpl)
    have hln : Hn l = some (.lst wl) := vis_sub _ _ (svn _ _ (sv3 _ _ hl))
    by_cases ci : i < ys.length
    · -- a turn
      have cp : i < ps.length := by omega
      refine .inr ⟨⟨ys, wl, ys[i], wl[i]'(by omega), SqL.of hpln, SqL.of hln, List.getElem?_eq_getElem ci, List.getElem?_eq_getElem (by omega)⟩, fun σ' Hn => ys.length - (i + 1) = ys.length - (i + 1) ∧ i + 1 ≤ ys.length ∧ σ'.length = 8 ∧ σ'[0]? = some (some vc) ∧ σ'[1]? = some (some (.ref o)) ∧ σ'[2]? = some (some (.ref L)) ∧ σ'[3]? = some (some (.ref N)) ∧ σ'[4]? = some (some (.str (clS c))) ∧ σ'[5]? = some (some (.ref U)) ∧
        ∃ (wsi : List V) (sti : WSt) (ti : List Int), (∀ b o, H3 b = some o → b ≠ L → b ≠ N → b ≠ U → Hn b = some o) ∧ Hid M1 Hn ∧ (∀ b, Hn b = none → H3 b = none) ∧ Hn L = some (.lst wsi) ∧ Hn N = some (.dK (numK sti.2)) ∧ Hn U = some (.lst (ti.map V.int)) ∧ ti.length = i + 1 ∧ LnVs K H0 (vis M1 Hn) wsi sti.1 ∧ WOk sti ∧
          writeAll (writeL n) ps st [] = writeAll (writeL n) (ps.drop (i + 1)) sti ti ∧ sti.1.length + ((ps.drop (i + 1)).map fun x => cnt n x.2).sum ≤ st.1.length + (ps.map fun x => cnt n x.2).sum ∧ sti.2.length ≤ sti.1.length, fun σ' H' nx => ⟨_, by omega, nx⟩, fun x Hy y => ?_⟩
      obtain ⟨T, x, y', rfl, nT, rfl, hx, hy'⟩ := y
      have hx := hx ys (SqL.of hpln)
      have hy' := hy' wl (SqL.of hln)
      have dropE : ps.drop i = ps[i] :: ps.drop (i + 1) := List.drop_eq_getElem_cons cp
      obtain ⟨s1, s2, s3, s4, s5, s6⟩ := step i ps[i] (List.getElem?_eq_getElem cp)
      rw [dropE, writeAll] at eW
      rw [dropE, List.map_cons, List.sum_cons] at lim
      generalize ps[i] = lq at s1 s2 s3 s4 s5 s6 eW lim
      obtain ⟨lc, lp⟩ := lq
      dsimp only at s1 s2 s3 s4 s5 s6 eW lim
      have eT := same_new nT (.tup [x, y'])
      have svT : Same (vis M1 Hn) (vis M1 (upd Hn T (.tup [x, y']))) := vis_same eT
      have wr := write_ok n lc lp sti s3 s4 s5 s6 wok
      refine ⟨T, [x, y'], rfl, SqT.of upd_same, rfl, ?_⟩
      dsimp only [gCons, gName, gNil]
      refine ⟨_, _, rfl, _, _, rfl, rfl, ?_⟩
      have k0 : ((σ'.set 6 (some x)).set 7 (some y'))[0]? = some (some vc) := by rw [List.getElem?_set_ne (by decide), List.getElem?_set_ne (by decide)]; exact z0
      have k1 : ((σ'.set 6 (some x)).set 7 (some y'))[1]? = some (some (.ref o)) := by rw [List.getElem?_set_ne (by decide), List.getElem?_set_ne (by decide)]; exact z1
      have k2 : ((σ'.set 6 (some x)).set 7 (some y'))[2]? = some (some (.ref L)) := by rw [List.getElem?_set_ne (by decide), List.getElem?_set_ne (by decide)]; exact z2
      have k3 : ((σ'.set 6 (some x)).set 7 (some y'))[3]? = some (some (.ref N)) := by rw [List.getElem?_set_ne (by decide), List.getElem?_set_ne (by decide)]; exact z3
      have k4 : ((σ'.set 6 (some x)).set 7 (some y'))[4]? = some (some (.str (clS c))) := by rw [List.getElem?_set_ne (by decide), List.getElem?_set_ne (by decide)]; exact z4
      have k5 : ((σ'.set 6 (some x)).set 7 (some y'))[5]? = some (some (.ref U)) := by rw [List.getElem?_set_ne (by decide), List.getElem?_set_ne (by decide)]; exact z5
      have k6 : ((σ'.set 6 (some x)).set 7 (some y'))[6]? = some (some x) := by rw [List.getElem?_set_ne (by decide)]; exact List.getElem?_set_self (by omega)
      have k7 : ((σ'.set 6 (some x)).set 7 (some y'))[7]? = some (some y') := List.getElem?_set_self (by rw [List.length_set]; omega)
      have kl : ((σ'.set 6 (some x)).set 7 (some y')).length = 8 := by rw [List.length_set, List.length_set]; exact zl'
      generalize (σ'.set 6 (some x)).set 7 (some y') = σ3 at k0 k1 k2 k3 k4 k5 k6 k7 kl ⊢
      refine ⟨_, k5, .inl ⟨rfl, _, .inl (.inl (eT _ _ hUn))⟩, x, k6, y', k7, .ref L, k2, .ref N, k3, M1, H0, x, y', L, N, wsi, lc, lp, sti, rfl, hidn.same eT, mL1, mN1, nLN, fun b z => hn0 b (n0 b (old b (eT.free z))), eT _ _ hLn, eT _ _ hNn, LnVs.same hlns svT, (paired_at hys3 hx s1).same (svn.trans svT),
        prV_ext (Ext_of (sv3.trans (svn.trans svT))) (hin i y' lp hy' s2), s3, s4, s5, s6, wok, by omega, nl, fun H4 ws4 wrt hL4 hN4 hls4 => ?_⟩
      have hU4 : H4 U = some (.lst (ti.map V.int)) := wrt _ _ (eT _ _ hUn) nUL nUN
      refine ⟨U, _, _, rfl, rfl, hU4, by rw [List.length_map, lti]; exact sl1001 (by omega), ?_⟩
      have wl1 := wr.len
      have wl2 := wr.nlen
      refine ⟨rfl, ci, kl, k0, k1, k2, k3, k4, k5, ws4, (writeL n lc lp sti).1, ti ++ [((writeL n lc lp sti).2 : Int)], fun b o z a1 a2 a3 => (upd_ne a3).trans (wrt _ _ (eT _ _ (keep b o z a1 a2 a3)) a1 a2), fun b mb => ?_, fun b z => ?_, (upd_ne nUL.symm).trans hL4, (upd_ne nUN.symm).trans hN4, by rw [upd_same, List.map_append]; rfl, by rw [List.length_append, List.length_singleton, lti], by rw [vis_upd mU]; exact hls4, wr.ok, eW, by omega, by omega⟩
      · by_cases a3 : b = U
        · rw [a3]; exact .inl ⟨_, upd_same⟩
        · rw [upd_ne a3]
          by_cases a1 : b = L
          · rw [a1]; exact .inl ⟨_, hL4⟩
          · by_cases a2 : b = N
            · rw [a2]; exact .inr ⟨_, hN4⟩
            · rcases hidn b mb with ⟨u, h⟩ | ⟨u, h⟩
              · exact .inl ⟨u, wrt _ _ (eT _ _ h) a1 a2⟩
              · exact .inr ⟨u, wrt _ _ (eT _ _ h) a1 a2⟩
      · have z := upd_nonX z
        refine old b (eT.free ?_)
        by_cases a1 : b = L
        · rw [a1, hL4] at z; cases z
        · by_cases a2 : b = N
          · rw [a2, hN4] at z; cases z
          · cases y : upd Hn T (.tup [x, y']) b with
            | none => rfl
            | some u => rw [wrt _ _ y a1 a2] at z; cases z
    · -- the line itself
      have ie : i = ys.length := by omega
      subst ie
      refine .inl ⟨⟨ys, wl, SqL.of hpln, SqL.of hln, .inl (Nat.le_refl _)⟩, ?_⟩
      have dE : ps.drop ys.length = [] := List.drop_eq_nil_of_le (by omega)
      rw [dE, writeAll] at eW
      rw [dE] at lim
      have lim : sti.1.length + 0 ≤ _ := lim
      rw [eW] at q
      have lwi : wsi.length = sti.1.length := Paired.length hlns
      dsimp only at q
      refine ⟨.ref L, z2, L, wsi, rfl, .inl (SqL.of hLn), .ref N, z3, _, z4, N, _, rfl, .inl ⟨_, Sum.inr (clS c), hNn, rfl, by unfold numK; rw [List.length_map]; omega, rfl⟩, ?_⟩
      rw [lwi, numK_put]
      have hL5 : upd Hn N (.dK (numK (putN sti.2 (clS c) sti.1.length))) L = some (.lst wsi) := (upd_ne nLN).trans hLn
      have ho5 : upd Hn N (.dK (numK (putN sti.2 (clS c) sti.1.length))) o = some (.ins C dx (prF vr (.ref l) vi)) := by
        have h1 := svn _ _ (sv3 _ _ ho)
        have h2 : o ≠ N := fun z => by unfold vis at h1; rw [z, mN1, if_pos rfl] at h1; cases h1
        exact (upd_ne h2).trans (vis_sub _ _ h1)
      have hU5 : upd Hn N (.dK (numK (putN sti.2 (clS c) sti.1.length))) U = some (.lst (ti.map V.int)) := (upd_ne nUN).trans hUn
      have old5 : ∀ b, upd Hn N (.dK (numK (putN sti.2 (clS c) sti.1.length))) b = none → Hn b = none := fun b z => upd_nonX z
      have keep5 : ∀ b u, Hn b = some u → b ≠ N → upd Hn N (.dK (numK (putN sti.2 (clS c) sti.1.length))) b = some u := fun b u z y => (upd_ne y).trans z
      have hN5 : upd Hn N (.dK (numK (putN sti.2 (clS c) sti.1.length))) N = some (.dK (numK (putN sti.2 (clS c) sti.1.length))) := upd_same
      generalize upd Hn N (.dK (numK (putN sti.2 (clS c) sti.1.length))) = H5 at hL5 ho5 hU5 old5 keep5 hN5 ⊢
      refine ⟨_, z2, .inl ⟨rfl, _, .inl (.inl hL5)⟩, vc, z0, .ref o, z1, o, C, dx, _, vr, rfl, ho5, PC.cl, PC.nr, prF_rule _ _ _, .ref U, z5, sl1000 (by show 3 ≤ 100000; decide), fun t nt => ⟨L, wsi, .ref t, rfl, rfl, (upd_ne (ne_of_none hL5 nt)).trans hL5, by omega, ?_⟩⟩
      have eT := same_new nt (.tup [vc, vr, .ref U])
      have nLt := ne_of_none hL5 nt
      have hN7 : upd (upd H5 t (.tup [vc, vr, .ref U])) L (.lst (wsi ++ [.ref t])) N = some (.dK (numK (putN sti.2 (clS c) sti.1.length))) := (upd_ne nLN.symm).trans (eT _ _ hN5)
      have gN7 := DGet.k (k := Sum.inr (clS c)) hN7
      rw [numK_val, lookN_putN] at gN7
      refine ⟨_, z3, _, z4, N, _, rfl, gN7, ?_⟩
      have k7 : ∀ b u, Hn b = some u → b ≠ L → b ≠ N → upd (upd H5 t (.tup [vc, vr, .ref U])) L (.lst (wsi ++ [.ref t])) b = some u := fun b u z y1 y2 => (upd_ne y1).trans (eT _ _ (keep5 b u z y2))
      have sv7 : Same (vis M1 Hn) (vis M (upd (upd H5 t (.tup [vc, vr, .ref U])) L (.lst (wsi ++ [.ref t])))) := fun b u z => leM _ _ _ (by
        unfold vis at z ⊢
        split at z
        · cases z
        · rename_i y
          rw [if_neg y]
          exact k7 b u z (fun x => y (by rw [x]; exact mL1)) fun x => y (by rw [x]; exact mN1))
      have nMt : M t = false := hid.non (n0 _ (old _ (old5 _ nt)))
      have tU : U ≠ t := ne_of_none hU5 nt
      refine q _ (wsi ++ [.ref t]) (fun b u z y1 y2 => k7 b u (keep b u (e3 _ _ ((upd_ne (ne_of_none z nU0)).trans (e1 _ _ z))) y1 y2 (ne_of_none z nU0)) y1 y2) upd_same hN7 (paired_snoc ?_ (LnVs.same hlns sv7))
      refine ⟨t, U, vc, vr, rfl, SqT.of ?_, hvc.same (sv3.trans (svn.trans sv7)), dp_same (sv3.trans (svn.trans sv7)) _ _ hvr, hn0 _ nU0, ?_⟩
      · unfold vis
        rw [nMt, if_neg Bool.false_ne_true]
        exact (upd_ne nLt.symm).trans upd_same
      · unfold vis
        rw [nMU, if_neg Bool.false_ne_true]
        exact k7 _ _ hUn nUL nUN
theorem all_write {C : Addr} (D : Df K mg "_write_lines" sWriteLines ["claim", "proof", "lines", "numbers"] f fd) (B : Blt mg) (b_zip : mg "zip" = none) (PC : PCls K C) (h_claim_spelled : Has P w K mg base 16 "claim_spelled" ["claim"] (spClaimSp K)) (h_led_to : Has P w K mg base 3 "led_to" ["claim", "rule"] (spLed K)) : ∀ n : Nat, Has P w K mg base (n + 16) "_write_lines" ["claim", "proof", "lines", "numbers"] (spWrite K C n)
  | 0 => by
    have no : ∀ vs H Q E, ¬ spWrite K C 0 vs H Q E := fun vs H Q E h => by
      obtain ⟨_, _, _, _, _, _, _, _, _, _, _, _, _, _, _, _, _, _, _, _, _, z, _⟩ := h
      exact z
    exact D.has ⟨fun vs H Q E h => absurd h (no vs H Q E), fun A outer s H args us vs Q E _ _ _ _ h => absurd h (no vs H Q E)⟩
  | n + 1 => D.has (ok_write D B b_zip PC h_claim_spelled h_led_to (all_write D B b_zip PC h_claim_spelled h_led_to n))
end
end Lm
set_option Elab.async false
set_option linter.all false
set_option maxRecDepth 100000
set_option maxHeartbeats 1000000
namespace Lm
open PySem PySem.Spec PyProof.Rows L2 LamX
def onceC (c : Cl) : Cl := (once c.1, once c.2)
theorem onceC_words (c : Cl) : wordsC (onceC c) ≤ wordsC c := by
  have h1 := mS_once Fm.size c.1
  have h2 := mS_once Fm.size c.2
  rw [mS_words, mS_words] at h1 h2
  show wordsS (once c.1) + wordsS (once c.2) ≤ wordsS c.1 + wordsS c.2
  omega
theorem onceC_CS {c : Cl} (g : GdC c) : CS (onceC c) := ⟨⟨fun f hf => g.1 f (mem_once.mp hf), fun f hf => g.2 f (mem_once.mp hf)⟩, nodup_once _, nodup_once _⟩
theorem NewCl.ext {K : PySem.W.Frag} {H0 H H' : Hp} {v : V} {c : Cl} (h : NewCl K H0 H v c) (e : ExtN H H') : NewCl K H0 H' v c := by
  obtain ⟨t, a, b, xs, ys, h1, h2, h3, h4, h5, h6, h7, h8⟩ := h
  exact ⟨t, a, b, xs, ys, h1, sqT_ext e h2, h3, h4, e _ _ h5 (fun _ z => nomatch z), e _ _ h6 (fun _ z => nomatch z), dpAll_ext e _ _ h7, dpAll_ext e _ _ h8⟩
/-- a heap without one list -/
def but (L : Addr) : Addr → Bool := fun b => b == L
def DecV (K : PySem.W.Frag) (H0 H : Hp) (v : V) (c : Cl) : Prop :=
  match search 61 (onceC c) with
  | .world ws => ∃ t l, v = .ref t ∧ SqT K H t [.str ("world" : Str), .ref l] ∧ H0 l = none ∧ H l = some (.lst (ws.map V.int))
  | .proof p => ∃ t L vs, v = .ref t ∧ SqT K (vis (but L) H) t [.str ("chain" : Str), .ref L] ∧ H0 L = none ∧ H L = some (.lst vs) ∧ LnVs K H0 (vis (but L) H) vs (decL (onceC c) p)
def spDecided (K : PySem.W.Frag) (C0 P0 : Addr) : Sp := fun vs H Q E => ∃ (v : V) (dc : PyData), vs = [v] ∧ Dp K H v dc ∧ short dc ∧ (∀ c : Cl, dc = c.toD → GdC c → wordsC c ≤ 60 → Tabs (nextT P0) H ∧ lim (onceC c) ≤ lnCap ∧ ∀ v' H', Grew (nextT P0) H H' → DecV K H H' v' c → Q v' H') ∧ (isC dc = false → ∀ H', Same H H' → E (.ref C0) none H')
section
variable {P : Program} {w : World} {K : PySem.W.Frag} {mg : Str → Option Value} {base : Heap} {f : Addr} {fd : FuncData}
theorem scDecided : FnScope ["claim", "start", "word", "found", "lines"] ["claim"] (defScope sDecided) := ⟨rfl, rfl, rfl, by decide +kernel, rfl, by decide +kernel, by decide +kernel⟩
theorem ok_decided {C0 C P0 : Addr} (D : Df K mg "decided" sDecided ["claim"] f fd) (h_refuse_no_claim : HasN P w K mg base 18 "refuse_no_claim" ["thing"] (spNoClaim K C0)) (h_told_once : Has P w K mg base 2 "told_once" ["claim"] (spToldOnce K))
    (h_searched : Has P w K mg base 78 "_searched" ["claim"] (spSearched K C P0 61)) (h_write_lines : Has P w K mg base 77 "_write_lines" ["claim", "proof", "lines", "numbers"] (spWrite K C 61)) : FnOk P w K mg base (L2N.CX P w) 79 f fd ["claim"] (spDecided K C0 P0) := by
  refine fun_okN D.fn scDecided (fun vs H Q E h => ?_) (fun cv A outer s H vs Q E hr h => ?_)
  · obtain ⟨v, dc, rfl, _⟩ := h
    rfl
  obtain ⟨v, dc, rfl, hv, s1, q1, q2⟩ := h
  refine ⟨_, (pss_cons (ps_expr (pe_callN (E := E) h_refuse_no_claim (L2N.takes_of rfl rfl rfl rfl) (fun _ _ _ _ h => h) (hr.mono (by omega)) (by rfl) (pa_cons (pv 0) pa_nil)))
    (pss_cons (ps_set (i := 1) scDecided.nd rfl (by first | exact Or.inl rfl | exact Or.inr rfl) (pe_callH h_told_once (hr.mono (by omega)) (by rfl) (pa_cons (pv 0) pa_nil)))
    (pss_cons (ps_asg (pe_callH h_searched (hr.mono (by omega)) (by rfl) (pa_cons (pv 1) pa_nil)) (pg_tup rfl (pgs_cons (pg_name (i := 2) scDecided.nd rfl (by first | exact Or.inl rfl | exact Or.inr rfl)) (pgs_cons (pg_name (i := 3) scDecided.nd rfl (by first | exact Or.inl rfl | exact Or.inr rfl)) pgs_nil))))
    (pss_cons (ps_if (pt_cmpR op_eq (pv 2) pe_str (nomark _)) (pss_one (ps_ret (pe_tup (pa_cons (pv 2) (pa_cons (pv 3) pa_nil))))) pss_nil)
    (pss_cons (ps_set (i := 4) scDecided.nd rfl (by first | exact Or.inl rfl | exact Or.inr rfl) (pe_lst pa_nil))
    (pss_cons (ps_expr (pe_callH h_write_lines (hr.mono (by omega)) (by rfl) (pa_cons (pv 1) (pa_cons (pv 3) (pa_cons (pv 4) (pa_cons pe_dnewK pa_nil))))))
    (pss_one (ps_ret (pe_tup (pa_cons pe_str (pa_cons (pv 4) pa_nil))))))))))), ?_⟩
  refine ⟨v, rfl, v, dc, rfl, hv, s1, fun c1 H1 e1 => ?_, q2⟩
  obtain ⟨c, rfl, gc, wc⟩ := isC_cback c1
  obtain ⟨hT, hcap, q⟩ := q1 c rfl gc wc
  have lc := cl_low wc gc
  have t0 : (L2.start ["claim", "start", "word", "found", "lines"] [v])[0]? = some (some v) := rfl
  have tl : (L2.start ["claim", "start", "word", "found", "lines"] [v]).length = 5 := rfl
  generalize L2.start ["claim", "start", "word", "found", "lines"] [v] = σ at t0 tl ⊢
  dsimp only [tSeq]
  refine ⟨v, t0, v, c, rfl, dp_same e1 _ _ hv, lc, fun v2 H2 e2 nw => ?_⟩
  dsimp only [gName, tSeq]
  have g2 : Grew (nextT P0) H H2 := (Grew.of hT e1).same e2
  have nw2 : NewCl K H H2 v2 (onceC c) := nw.older' fun b z => e1.free z
  have u1 : (σ.set 1 (some v2))[1]? = some (some v2) := List.getElem?_set_self (by omega)
  have ul : (σ.set 1 (some v2)).length = 5 := by rw [List.length_set]; exact tl
  generalize σ.set 1 (some v2) = σ1 at u1 ul ⊢
  have cs := onceC_CS gc
  have wo := onceC_words c
  have rok := search_ok 61 (onceC c) cs (by omega)
  refine ⟨v2, u1, fun _ => false, v2, onceC c, rfl, Hid.none, by rw [vis_none]; exact nw2.dp, cs, by omega, by omega, g2.tabs, fun v3 H3 g3 rv => ?_⟩
  rw [vis_none] at rv
  have g13 := g2.trans g3
  cases er : search 61 (onceC c) with
  | world ws =>
    rw [er] at rv
    obtain ⟨t, l, rfl, st, nl, hl⟩ := rv
    refine ⟨t, _, rfl, st, rfl, ?_⟩
    dsimp only [gCons, gName, gNil, tSeq]
    refine ⟨_, _, rfl, _, _, rfl, rfl, ?_⟩
    have k2 : ((σ1.set 2 (some (.str ("world" : Str)))).set 3 (some (.ref l)))[2]? = some (some (.str ("world" : Str))) := by rw [List.getElem?_set_ne (by decide)]; exact List.getElem?_set_self (by omega)
    have k3 : ((σ1.set 2 (some (.str ("world" : Str)))).set 3 (some (.ref l)))[3]? = some (some (.ref l)) := List.getElem?_set_self (by rw [List.length_set]; omega)
    generalize (σ1.set 2 (some (.str ("world" : Str)))).set 3 (some (.ref l)) = σ2 at k2 k3 ⊢
    refine ⟨_, k2, rfl, _, rfl, ?_⟩
    rw [decide_eq_true rfl]
    refine iteT ?_
    refine ⟨_, k2, _, k3, sl1000 (by show 2 ≤ 100000; decide), fun z nz => ?_⟩
    refine q _ _ (g13.same (same_new nz _)) ?_
    unfold DecV
    rw [er]
    exact ⟨z, l, rfl, SqT.of upd_same, g2.nn _ nl, (upd_ne (ne_of_none hl nz)).trans hl⟩
  | proof p =>
    rw [er] at rv rok
    obtain ⟨pok, psub, pcnt⟩ := rok
    obtain ⟨t, u, rfl, st, pv⟩ := rv
    refine ⟨t, _, rfl, st, rfl, ?_⟩
    dsimp only [gCons, gName, gNil, tSeq]
    refine ⟨_, _, rfl, _, _, rfl, rfl, ?_⟩
    have k1 : ((σ1.set 2 (some (.str ("proof" : Str)))).set 3 (some u))[1]? = some (some v2) := by rw [List.getElem?_set_ne (by decide), List.getElem?_set_ne (by decide)]; exact u1
    have k2 : ((σ1.set 2 (some (.str ("proof" : Str)))).set 3 (some u))[2]? = some (some (.str ("proof" : Str))) := by rw [List.getElem?_set_ne (by decide)]; exact List.getElem?_set_self (by omega)
    have k3 : ((σ1.set 2 (some (.str ("proof" : Str)))).set 3 (some u))[3]? = some (some u) := List.getElem?_set_self (by rw [List.length_set]; omega)
    have kl : ((σ1.set 2 (some (.str ("proof" : Str)))).set 3 (some u)).length = 5 := by rw [List.length_set, List.length_set]; exact ul
    generalize (σ1.set 2 (some (.str ("proof" : Str)))).set 3 (some u) = σ2 at k1 k2 k3 kl ⊢
    refine ⟨_, k2, rfl, _, rfl, ?_⟩
    rw [decide_eq_false (by decide +kernel)]
    refine iteF ?_
    refine ⟨sl1000 (by show 0 ≤ 100000; decide), fun L nL => ?_⟩
    dsimp only [gName, tSeq]
    have x1 : (σ2.set 4 (some (.ref L)))[1]? = some (some v2) := by rw [List.getElem?_set_ne (by decide)]; exact k1
    have x3 : (σ2.set 4 (some (.ref L)))[3]? = some (some u) := by rw [List.getElem?_set_ne (by decide)]; exact k3
    have x4 : (σ2.set 4 (some (.ref L)))[4]? = some (some (.ref L)) := List.getElem?_set_self (by omega)
    generalize σ2.set 4 (some (.ref L)) = σ3 at x1 x3 x4 ⊢
    refine ⟨_, x1, _, x3, _, x4, fun N nN => ?_⟩
    have nLN : L ≠ N := fun z => by rw [← z, upd_same] at nN; cases nN
    have nN3 : H3 N = none := upd_nonX nN
    have eLN : Same H3 (upd (upd H3 L (.lst [])) N (.dK [])) := (same_new nL _).trans (same_new nN _)
    have eV : Same H3 (vis (fun b => b == L || b == N) (upd (upd H3 L (.lst [])) N (.dK []))) := fun b o z => by
      unfold vis
      rw [if_neg ?_]
      · exact eLN _ _ z
      · intro y
        rcases Bool.or_eq_true _ _ ▸ y with y | y
        · rw [beq_iff_eq] at y
          rw [y, nL] at z; cases z
        · rw [beq_iff_eq] at y
          rw [y, nN3] at z; cases z
    have n3 : ∀ b, upd (upd H3 L (.lst [])) N (.dK []) b = none → H b = none := fun b z => g13.nn b (upd_nonX (upd_nonX z))
    refine ⟨fun b => b == L || b == N, H, v2, u, L, N, [], onceC c, p, ([], []), rfl, fun b y => ?_, by simp, by simp, nLN, n3, (upd_ne nLN).trans upd_same, upd_same, .nil, (nw2.ext g3.ext).same eV, prV_ext (Ext_of eV) pv, pok, psub, ⟨cs.gd, by omega⟩, cs, ⟨.nil, fun l hl => (nomatch hl), fun e he => (nomatch he)⟩, ?_, Nat.le_refl _, fun H4 ws4 wrt hL4 hN4 hls4 => ?_⟩
    · rcases Bool.or_eq_true _ _ ▸ y with y | y
      · rw [beq_iff_eq] at y
        rw [y]; exact .inl ⟨_, (upd_ne nLN).trans upd_same⟩
      · rw [beq_iff_eq] at y
        rw [y]; exact .inr ⟨_, upd_same⟩
    · show 0 + cnt 61 p ≤ lnCap
      omega
    · have e34 : Same H3 H4 := fun b o z => wrt b o (eLN _ _ z) (ne_of_none z nL) (ne_of_none z nN3)
      refine ⟨_, x4, sl1000 (by show 2 ≤ 100000; decide), fun z nz => ?_⟩
      refine q _ _ ((g13.same e34).same (same_new nz _)) ?_
      unfold DecV
      rw [er]
      have zL : z ≠ L := fun y => by rw [y, hL4] at nz; cases nz
      refine ⟨z, L, ws4, rfl, SqT.of ?_, g13.nn _ nL, (upd_ne zL.symm).trans hL4, LnVs.same hls4 fun b o y => ?_⟩
      · unfold vis but
        rw [if_neg (by rw [beq_iff_eq]; exact zL)]
        exact upd_same
      · unfold vis at y ⊢
        split at y
        · cases y
        · rename_i w
          rw [if_neg (fun x => w (by have x : (b == L) = true := x; show (b == L || b == N) = true; rw [x]; rfl))]
          exact (upd_ne (ne_of_none y nz)).trans y
end
end Lm
set_option Elab.async false
set_option linter.all false
set_option maxRecDepth 100000
set_option maxHeartbeats 1000000
/-! what was told is changed -/
namespace Lm
open PySem PySem.Spec PyProof.Rows L2 LamX
/-- from H1 to H only lists have changed that are new since H0, and not those of kp; n changes -/
structure Mut (kp : Addr → Bool) (H0 H1 : Hp) (n : Nat) (H : Hp) : Prop where
  keep : ∀ b o, H1 b = some o → (∀ xs, o ≠ .lst xs) → H b = some o
  lst : ∀ b xs, H1 b = some (.lst xs) → ∃ ys, H b = some (.lst ys) ∧ ys.length ≤ xs.length + n ∧ (kp b = true ∨ (∃ u, H0 b = some u) → ys = xs)
section
variable {kp : Addr → Bool} {H0 H1 H H' : Hp} {n : Nat} {K : PySem.W.Frag}
theorem Mut.start : Mut kp H0 H1 0 H1 := ⟨fun _ _ h _ => h, fun b xs h => ⟨xs, h, Nat.le_refl _, fun _ => rfl⟩⟩
theorem Mut.sm (m : Mut kp H0 H1 n H) {b : Addr} {o : HO} (h : H1 b = some o) : ∃ u, H b = some u := by
  by_cases l : ∃ xs, o = .lst xs
  · obtain ⟨xs, rfl⟩ := l
    obtain ⟨ys, e, _⟩ := m.lst b xs h
    exact ⟨_, e⟩
  · exact ⟨_, m.keep b _ h fun xs z => l ⟨xs, z⟩⟩
theorem Mut.nn (m : Mut kp H0 H1 n H) {b : Addr} (h : H b = none) : H1 b = none := by
  cases z : H1 b with
  | none => rfl
  | some o =>
    obtain ⟨u, e⟩ := m.sm z
    rw [h] at e; cases e
theorem Mut.same (m : Mut kp H0 H1 n H) (e : Same H H') : Mut kp H0 H1 n H' :=
  ⟨fun b o h k => e _ _ (m.keep b o h k), fun b xs h => by
    obtain ⟨ys, a, b', c⟩ := m.lst b xs h
    exact ⟨ys, e _ _ a, b', c⟩⟩
theorem Mut.kept (m : Mut kp H0 H1 n H) {b : Addr} {o : HO} (h : H1 b = some o) (k : kp b = true ∨ ∃ u, H0 b = some u) : H b = some o := by
  by_cases l : ∃ xs, o = .lst xs
  · obtain ⟨xs, rfl⟩ := l
    obtain ⟨ys, e, _, z⟩ := m.lst b xs h
    rw [e, z k]
  · exact m.keep b _ h fun xs z => l ⟨xs, z⟩
/-- a list that is new is written anew -/
theorem Mut.write (m : Mut kp H0 H1 n H) {b : Addr} {xs ys zs : List V} (h : H1 b = some (.lst xs)) (h0 : H0 b = none) (k : kp b = false) (e : H b = some (.lst ys)) (l : zs.length ≤ ys.length + 1) : Mut kp H0 H1 (n + 1) (L2.upd H b (.lst zs)) := by
  refine ⟨fun c o q ne => ?_, fun c ws q => ?_⟩
  · have z : c ≠ b := fun z => by rw [z, h] at q; cases q; exact ne _ rfl
    exact (upd_ne z).trans (m.keep c o q ne)
  · by_cases z : c = b
    · subst z
      rw [h] at q
      cases q
      obtain ⟨us, e2, l2, _⟩ := m.lst c xs h
      rw [e] at e2
      cases e2
      refine ⟨zs, upd_same, by omega, fun p => ?_⟩
      rcases p with p | ⟨u, p⟩
      · rw [k] at p; cases p
      · rw [h0] at p; cases p
    · obtain ⟨us, a, b', c'⟩ := m.lst c ws q
      exact ⟨us, (upd_ne z).trans a, by omega, c'⟩
theorem Mut.sqT (m : Mut kp H0 H1 n H) {a : Addr} {xs : List V} (h : SqT K H1 a xs) : SqT K H a xs := by
  rcases h with (h | ⟨o, h⟩) | h
  · exact .inl (.inl (m.keep _ _ h fun _ z => nomatch z))
  · exact .inl (.inr ⟨o, m.keep _ _ h fun _ z => nomatch z⟩)
  · exact .inr h
theorem Mut.grew {T : List (Addr × Str)} (m : Mut kp H0 H1 n H) (g : Grew T H0 H1) : Grew T H0 H := by
  refine ⟨fun b o h ne => m.kept (g.ext b o h ne) (.inr ⟨o, h⟩), fun b z => g.nn b (m.nn z), fun q hq => ?_⟩
  obtain ⟨ps, h1, h2, h3⟩ := g.tabs q hq
  refine ⟨ps, m.keep _ _ h1 (fun _ z => nomatch z), h2, fun pos cv hc => ?_⟩
  obtain ⟨c, e1, e2⟩ := h3 pos cv hc
  exact ⟨c, e1, m.keep _ _ e2 fun _ z => nomatch z⟩
end
/-! ### what decided tells, as data -/
theorem LnV.dp {K : PySem.W.Frag} {H0 G : Hp} {v : V} {l : Ln} (h : LnV K H0 G v l) : Dp K G v l.toD := by
  obtain ⟨t, u, vc, vr, rfl, st, nw, hr, _, hu⟩ := h
  exact .tup st (.cons nw.dp (.cons hr (.cons (.lst (SqL.of hu) (dpAll_ints l.u)) .nil)))
theorem LnVs.dp {K : PySem.W.Frag} {H0 G : Hp} : ∀ {vs : List V} {ls : List Ln}, LnVs K H0 G vs ls → DpAll K G vs (ls.map Ln.toD)
  | _, _, .nil => .nil
  | _, _, .cons h t => .cons h.dp (LnVs.dp t)
noncomputable def decD (c : Cl) : PyData :=
  match search 61 (onceC c) with
  | .world ws => .tuple [.str ("world" : Str), intsD ws]
  | .proof p => .tuple [.str ("chain" : Str), .list ((decL (onceC c) p).map Ln.toD)]
theorem vis_but {L : Addr} {H : Hp} : Same (vis (but L) H) H := vis_sub
theorem DecV.dp {K : PySem.W.Frag} {H0 H : Hp} {v : V} {c : Cl} (h : DecV K H0 H v c) : Dp K H v (decD c) := by
  unfold DecV at h
  unfold decD
  cases e : search 61 (onceC c) with
  | world ws =>
    rw [e] at h
    obtain ⟨t, l, rfl, st, _, hl⟩ := h
    exact .tup st (.cons (.str _) (.cons (.lst (SqL.of hl) (dpAll_ints ws)) .nil))
  | proof p =>
    rw [e] at h
    obtain ⟨t, L, vs, rfl, st, _, hL, ln⟩ := h
    exact .tup (sqT_ext (Ext_of vis_but) st) (.cons (.str _) (.cons (.lst (SqL.of hL) (dpAll_same vis_but _ _ ln.dp)) .nil))
def spDecidedC (K : PySem.W.Frag) (P0 : Addr) : Sp := fun vs H Q _ => ∃ (v : V) (c : Cl), vs = [v] ∧ Dp K H v c.toD ∧ GdC c ∧ wordsC c ≤ 60 ∧ Tabs (nextT P0) H ∧ lim (onceC c) ≤ lnCap ∧ ∀ v' H', Grew (nextT P0) H H' → DecV K H H' v' c → Q v' H'
theorem calm_decided {P : Program} {w : World} {K : PySem.W.Frag} {mg : Str → Option Value} {base : Heap} {k : Nat} {C0 P0 : Addr} (h : HasN P w K mg base k "decided" ["claim"] (spDecided K C0 P0)) : Has P w K mg base k "decided" ["claim"] (spDecidedC K P0) := by
  refine h.calm fun vs H Q E q => ?_
  obtain ⟨v, c, rfl, hv, gc, wc, hT, hc, q⟩ := q
  refine ⟨v, c.toD, rfl, hv, cl_short wc, fun c' e g' w' => ?_, fun n => ?_⟩
  · obtain rfl := clD_inj e
    exact ⟨hT, hc, q⟩
  · rw [isC_cl gc, decide_eq_true wc] at n
    cases n
/-- the lines that decided tells -/
theorem dec_lines {c : Cl} {p : Pr} (gc : GdC c) (wc : wordsC c ≤ 60) (hl : lim (onceC c) ≤ lnCap) (e : search 61 (onceC c) = .proof p) : Wk (decL (onceC c) p) ∧ (∀ l ∈ decL (onceC c) p, LnS l) ∧ (∃ ls l, decL (onceC c) p = ls ++ [l] ∧ l.c = onceC c) ∧ (decL (onceC c) p).length ≤ lnCap ∧ ∀ i, i + 1 < (decL (onceC c) p).length → Told (decL (onceC c) p) i := by
  have wo := onceC_words c
  have r := search_ok 61 (onceC c) (onceC_CS gc) (by omega)
  rw [e] at r
  obtain ⟨a, b, d⟩ := r
  obtain ⟨h1, h2, h3, h4, h5⟩ := dec_ok a b ⟨(onceC_CS gc).gd, by omega⟩ (onceC_CS gc)
  exact ⟨h1, h2, h3, by omega, h5⟩
/-- no world against a claim that holds in each -/
theorem dec_world {c : Cl} {ws : List Int} (gc : GdC c) (wc : wordsC c ≤ 60) (e : search 61 (onceC c) = .world ws) : WorldOk ws c := by
  have wo := onceC_words c
  have r := search_ok 61 (onceC c) (onceC_CS gc) (by omega)
  rw [e] at r
  exact ⟨r.nd, r.rng, fails_once r.fl⟩
end Lm
set_option Elab.async false
set_option linter.all false
set_option maxRecDepth 100000
set_option maxHeartbeats 400000
namespace Lm
open PySem PySem.Spec PyProof.Rows L2
def gCell (ds : List PyData) (d : PyData) : Prop := ∃ (ns : List Int) (k : Int), ds = [intsD ns, .int k] ∧ 0 ≤ k ∧ d = .int (cellN ns k)
def gFirst (ds : List PyData) (d : PyData) : Prop := ∃ (ns : List Int), ds = [intsD ns] ∧ d = .int (firstN ns)
def gCount (ds : List PyData) (d : PyData) : Prop := ∃ (b : Int), ds = [.int b] ∧ d = .int (countN b)
def gSign (ds : List PyData) (d : PyData) : Prop := ∃ (k b : Int), ds = [.int k, .int b] ∧ d = .int (signN k b)
def gFormula (n : Nat) (ds : List PyData) (d : PyData) : Prop := ∃ (c b : Int) (m : Nat), ds = [.int c, .int (m : Int), .int b] ∧ m < n ∧ d = (formN m c b).toD
def gWith (ds : List PyData) (d : PyData) : Prop := ∃ A B : List Fm, ds = [lsD A, lsD B] ∧ Sh A ∧ Sh B ∧ A.length ≤ 1000 ∧ B.length ≤ 1000 ∧ d = lsD (once (A ++ B))
def gWithout (ds : List PyData) (d : PyData) : Prop := ∃ (A : List Fm) (f : Fm), ds = [lsD A, f.toD] ∧ Sh A ∧ f.dep ≤ 60 ∧ A.length ≤ 2000 ∧ d = lsD (without A f)
def gSplit (ds : List PyData) (d : PyData) : Prop := ∃ (f : Fm) (r : Bool), ds = [f.toD, .int (if r = true then 1 else 0)] ∧ f.isSg = false ∧ d = .list ((if r = true then putR f else putL f).map Cl.toD)
def ruLow : Ru → Prop
  | .fm _ f => f.dep ≤ 60
  | .more m => LowC m
def gLWanted (ds : List PyData) (d : PyData) : Prop := ∃ (c : Cl) (ru : Ru), ds = [c.toD, ru.toD] ∧ LowC c ∧ ruLow ru ∧ d = optD (lwants c ru)
def gLWords (n : Nat) (ds : List PyData) (d : PyData) : Prop := ∃ f : Fm, ds = [f.toD] ∧ f.dep < n ∧ d = .int (f.size : Int)
theorem pu_ixI {K : PySem.W.Frag} {ρ : Rho} {ta tb : TE} {ns : List Int} {k z : Int} (h : PuE K ta ρ (intsD ns)) (h2 : PuE K tb ρ (.int k)) (e : atI ns k = some z) : PuE K (tOp (rIxL K) ta tb) ρ (.int z) := by
  refine pu_ixL (ds := ns.map PyData.int) h h2 ?_
  unfold atI at e ⊢
  rw [List.length_map]
  cases q : ixN ns.length k with
  | none => rw [q] at e; cases e
  | some j =>
    rw [q] at e
    have e : ns[j]? = some z := e
    show (ns.map PyData.int)[j]? = some (.int z)
    rw [List.getElem?_map, e]
    rfl
theorem atI_in {ns : List Int} {k : Int} (h0 : 0 ≤ k) (h : k < (ns.length : Int)) : atI ns k = some (cellN ns k) := by
  obtain ⟨j, rfl⟩ := Int.eq_ofNat_of_zero_le h0
  have hj : j < ns.length := by omega
  unfold cellN
  rw [if_pos h, atI_get' hj]
  rfl
theorem cmul48 (i : Int) : CMul i 48271 := .inr ⟨by decide, by decide⟩
theorem cmul16 (i : Int) : CMul i 16807 := .inr ⟨by decide, by decide⟩
theorem cdiv8 (i : Int) : CDiv i 8 := ⟨by decide, by decide⟩
theorem cdiv100 (i : Int) : CDiv i 100 := ⟨by decide, by decide⟩
section
variable {P : Program} {w : World} {K : PySem.W.Frag} {mg : Str → Option Value} {base : Heap} {f : Addr} {fd : FuncData}
theorem scCell : FnScope ["_law_script", "_law_k"] ["_law_script", "_law_k"] (defScope sCell) := ⟨rfl, rfl, rfl, by decide +kernel, rfl, by decide +kernel, by decide +kernel⟩
theorem ok_cell (D : Df K mg "_law_cell_at" sCell ["_law_script", "_law_k"] f fd) (B : Blt mg) : FnOk P w K mg base CX0 1 f fd ["_law_script", "_law_k"] (spPu K 2 gCell) := by
  refine ok_pu D scCell fun cdv A outer s H E hr => ?_
  refine ⟨_, (pss_cons (ps_if (pt_cmpR op_lt (pv 1) (pe_callB (r := rLn K) call_len_seq (by rfl) B.len PySem.boot_len (pa_cons (pv 0) pa_nil)) (nomark _)) (pss_one (ps_ret (pe_ix (r := rIxL K) ix_list (pv 0) (pv 1) (fun _ _ => rfl)))) pss_nil)
    (pss_one (ps_ret pe_int))), ?_⟩
  rintro ds d hl ⟨ns, k, rfl, h0, rfl⟩
  left
  have len : PuE K (tCB (rLn K) (tCons (tVar 0) tNil)) (startD ["_law_script", "_law_k"] [intsD ns, .int k]) (.int (ns.length : Int)) := (pu_len_l (ds := ns.map PyData.int) (pu_var rfl)).cast (by rw [List.length_map])
  refine pus_ifr (pu_tTest (pu_lt (pu_var rfl) len)) (fun c => ⟨_, rfl, pus_ret (pu_ixI (pu_var rfl) (pu_var rfl) (atI_in h0 (of_decide_eq_true c)))⟩) (fun c => pus_ret ((pu_int 0).cast ?_))
  unfold cellN
  rw [if_neg (of_decide_eq_false c)]
theorem scFirst : FnScope ["_law_script"] ["_law_script"] (defScope sFirst) := ⟨rfl, rfl, rfl, by decide +kernel, rfl, by decide +kernel, by decide +kernel⟩
theorem ok_first (D : Df K mg "_law_first" sFirst ["_law_script"] f fd) (h_law_cell_at : Has P w K mg base 1 "_law_cell_at" ["_law_script", "_law_k"] (spPu K 2 gCell)) : FnOk P w K mg base CX0 2 f fd ["_law_script"] (spPu K 1 gFirst) := by
  refine ok_pu D scFirst fun cdv A outer s H E hr => ?_
  refine ⟨_, (pss_one (ps_ret (pe_op op_mod (pe_op op_mul (pe_callH h_law_cell_at (hr.mono (by omega)) (by rfl) (pa_cons (pv 0) (pa_cons pe_int pa_nil))) pe_int) pe_int))), ?_⟩
  rintro ds d hl ⟨ns, rfl, rfl⟩
  exact .inl (pus_ret (pu_mod (pu_mul (pu_call (pu_cons (pu_var rfl) (pu_cons (pu_int 0) pu_nil)) rfl ⟨ns, 0, rfl, Int.le_refl 0, rfl⟩) (pu_int _) (cmul48 _)) (pu_int _) (by decide)))
theorem scCount : FnScope ["_law_base"] ["_law_base"] (defScope sCount) := ⟨rfl, rfl, rfl, by decide +kernel, rfl, by decide +kernel, by decide +kernel⟩
theorem pu_six {ρ : Rho} {a b c d e f : Int} : PuE K (tLst (tCons (tC (.int a)) (tCons (tC (.int b)) (tCons (tC (.int c)) (tCons (tC (.int d)) (tCons (tC (.int e)) (tCons (tC (.int f)) tNil))))))) ρ (intsD [a, b, c, d, e, f]) :=
  pu_lst (pu_cons (pu_int _) (pu_cons (pu_int _) (pu_cons (pu_int _) (pu_cons (pu_int _) (pu_cons (pu_int _) (pu_cons (pu_int _) pu_nil)))))) (by simp)
theorem ok_count (D : Df K mg "_law_count" sCount ["_law_base"] f fd) : FnOk P w K mg base CX0 1 f fd ["_law_base"] (spPu K 1 gCount) := by
  refine ok_pu D scCount fun cdv A outer s H E hr => ?_
  refine ⟨_, (pss_one (ps_ret (pe_ix (r := rIxL K) ix_list (pe_lst (pa_cons pe_int (pa_cons pe_int (pa_cons pe_int (pa_cons pe_int (pa_cons pe_int (pa_cons pe_int pa_nil))))))) (pe_op op_mod (pe_op op_fdiv (pv 0) pe_int) pe_int) (fun _ _ => rfl)))), ?_⟩
  rintro ds d hl ⟨b, rfl, rfl⟩
  exact .inl (pus_ret (pu_ixI pu_six (pu_mod (pu_fdiv (pu_var rfl) (pu_int 100) (cdiv100 _)) (pu_int 6) (by decide)) (countN_at b).1))
theorem scSign : FnScope ["_law_k", "_law_base"] ["_law_k", "_law_base"] (defScope sSign) := ⟨rfl, rfl, rfl, by decide +kernel, rfl, by decide +kernel, by decide +kernel⟩
theorem ok_sign (D : Df K mg "_law_sign" sSign ["_law_k", "_law_base"] f fd) (h_law_count : Has P w K mg base 1 "_law_count" ["_law_base"] (spPu K 1 gCount)) : FnOk P w K mg base CX0 2 f fd ["_law_k", "_law_base"] (spPu K 2 gSign) := by
  refine ok_pu D scSign fun cdv A outer s H E hr => ?_
  refine ⟨_, (pss_one (ps_ret (pe_op op_mod (pe_op op_add (pv 1) (pe_op op_mul (pe_ix (r := rIxL K) ix_list (pe_lst (pa_cons pe_int (pa_cons pe_int (pa_cons pe_int (pa_cons pe_int (pa_cons pe_int (pa_cons pe_int pa_nil))))))) (pe_op op_mod (pe_op op_fdiv (pv 1) pe_int) pe_int) (fun _ _ => rfl)) (pe_op op_mod (pv 0) (pe_callH h_law_count (hr.mono (by omega)) (by rfl) (pa_cons (pv 1) pa_nil))))) pe_int))), ?_⟩
  rintro ds d hl ⟨k, b, rfl, rfl⟩
  exact .inl (pus_ret (pu_mod (pu_add (pu_var rfl) (pu_mul (pu_ixI pu_six (pu_mod (pu_fdiv (pu_var rfl) (pu_int 100) (cdiv100 _)) (pu_int 6) (by decide)) (tabN_at b).1)
    (pu_mod (pu_var rfl) (pu_call (pu_cons (pu_var rfl) pu_nil) rfl ⟨b, rfl, rfl⟩) (by have := (countN_at b).2.1; omega)) (.inl (tabN_at b).2))) (pu_int 100) (by decide)))
theorem scFormula : FnScope ["_law_cell", "_law_deep_here", "_law_base", "_law_more", "_law_one_here", "_law_other"] ["_law_cell", "_law_deep_here", "_law_base"] (defScope sFormula) := ⟨rfl, rfl, rfl, by decide +kernel, rfl, by decide +kernel, by decide +kernel⟩
theorem ok_formula {n : Nat} (D : Df K mg "_law_formula" sFormula ["_law_cell", "_law_deep_here", "_law_base"] f fd) (h_law_sign : Has P w K mg base 2 "_law_sign" ["_law_k", "_law_base"] (spPu K 2 gSign)) (h_law_formula : Has P w K mg base (n + 2) "_law_formula" ["_law_cell", "_law_deep_here", "_law_base"] (spPu K 3 (gFormula n))) :
    FnOk P w K mg base CX0 (n + 3) f fd ["_law_cell", "_law_deep_here", "_law_base"] (spPu K 3 (gFormula (n + 1))) := by
  refine ok_pu D scFormula fun cdv A outer s H E hr => ?_
  refine ⟨_, (pss_cons (ps_set (i := 3) scFormula.nd rfl (by first | exact Or.inl rfl | exact Or.inr rfl) (pe_op op_fdiv (pv 0) pe_int))
    (pss_cons (ps_if (PW.pt (pw_or (pt_cmpR op_lt (pv 1) pe_int (nomark _)) (pw_or1 (pt_cmpR op_lt (pe_op op_mod (pv 0) pe_int) pe_int (nomark _))))) (pss_one (ps_ret (pe_tup (pa_cons pe_str (pa_cons (pe_callH h_law_sign (hr.mono (by omega)) (by rfl) (pa_cons (pv 3) (pa_cons (pv 2) pa_nil))) pa_nil))))) pss_nil)
    (pss_cons (ps_set (i := 4) scFormula.nd rfl (by first | exact Or.inl rfl | exact Or.inr rfl) (pe_callH h_law_formula (hr.mono (by omega)) (by rfl) (pa_cons (pe_op op_mod (pe_op op_mul (pv 3) pe_int) pe_int) (pa_cons (pe_op op_sub (pv 1) pe_int) (pa_cons (pv 2) pa_nil)))))
    (pss_cons (ps_if (pt_cmpR op_eq (pe_op op_mod (pv 0) pe_int) pe_int (nomark _)) (pss_one (ps_ret (pe_tup (pa_cons pe_str (pa_cons (pv 4) pa_nil))))) pss_nil)
    (pss_cons (ps_set (i := 5) scFormula.nd rfl (by first | exact Or.inl rfl | exact Or.inr rfl) (pe_callH h_law_formula (hr.mono (by omega)) (by rfl) (pa_cons (pe_op op_mod (pe_op op_mul (pv 3) pe_int) pe_int) (pa_cons (pe_op op_sub (pv 1) pe_int) (pa_cons (pv 2) pa_nil)))))
    (pss_one (ps_ret (pe_tup (pa_cons (pe_ix (r := rIxL K) ix_list (pe_lst (pa_cons pe_str (pa_cons pe_str (pa_cons pe_str pa_nil)))) (pe_op op_mod (pv 0) pe_int) (fun _ _ => rfl)) (pa_cons (pv 4) (pa_cons (pv 5) pa_nil))))))))))), ?_⟩
  rintro ds d hl ⟨c, b, m, rfl, hm, rfl⟩
  left
  refine pus_set (pu_fdiv (pu_var rfl) (pu_int 8) (cdiv8 _)) ?_
  have sg : ∀ {ρ : Rho}, ρ[3]? = some (some (.int (c / 8))) → ρ[2]? = some (some (.int b)) → PuE K (tTup (tCons (tC (.str ("sign" : Str))) (tCons (tCall (spPu K 2 gSign) [] E0 (tCons (tVar 3) (tCons (tVar 2) tNil))) tNil))) ρ (Fm.sg (signN (c / 8) b)).toD :=
    fun h h2 => pu_tup (pu_cons (pu_str _) (pu_cons (pu_call (pu_cons (pu_var h) (pu_cons (pu_var h2) pu_nil)) rfl ⟨_, _, rfl, rfl⟩) pu_nil)) (by simp)
  cases m with
  | zero => exact pus_take (pu_or_l ((pu_tTest (pu_lt (pu_var rfl) (pu_int 1))).cast rfl)) (pus_ret (sg rfl rfl))
  | succ m =>
    have t1 : PuT K (tTest (tOp (rI0 fun i j => .bl (decide (i < j))) (tVar 1) (tC (.int 1)))) [some (.int c), some (.int ((m + 1 : Nat) : Int)), some (.int b), some (.int (c / 8)), none, none] false := (pu_tTest (pu_lt (pu_var rfl) (pu_int 1))).cast (decide_eq_false (by omega))
    rw [formN]
    by_cases c1 : c % 8 < 3
    · rw [if_pos c1]
      exact pus_take (pu_or_r t1 ((pu_tTest (pu_lt (pu_mod (pu_var rfl) (pu_int 8) (by decide)) (pu_int 3))).cast (decide_eq_true c1))) (pus_ret (sg rfl rfl))
    rw [if_neg c1]
    refine pus_skip (pu_or_r t1 ((pu_tTest (pu_lt (pu_mod (pu_var rfl) (pu_int 8) (by decide)) (pu_int 3))).cast (decide_eq_false c1))) ?_
    have deep : ∀ {ρ : Rho}, ρ[1]? = some (some (.int ((m + 1 : Nat) : Int))) → PuE K (tOp (rI0 fun i j => .int (i - j)) (tVar 1) (tC (.int 1))) ρ (.int (m : Int)) := fun h => (pu_sub (pu_var h) (pu_int 1)).cast (by congr 1; omega)
    refine pus_set (d := (formN m (c / 8 * 48271 % 65537) b).toD) (pu_call (pu_cons (pu_mod (pu_mul (pu_var rfl) (pu_int _) (cmul48 _)) (pu_int _) (by decide)) (pu_cons (deep rfl) (pu_cons (pu_var rfl) pu_nil))) rfl ⟨_, b, m, rfl, by omega, rfl⟩) ?_
    by_cases c2 : c % 8 = 3
    · rw [if_pos c2]
      exact pus_take ((pu_tTest (pu_eqI (pu_mod (pu_var rfl) (pu_int 8) (by decide)) (pu_int 3))).cast (decide_eq_true c2)) (pus_ret (pu_tup (pu_cons (pu_str _) (pu_cons (pu_var rfl) pu_nil)) (by simp)))
    rw [if_neg c2]
    refine pus_skip ((pu_tTest (pu_eqI (pu_mod (pu_var rfl) (pu_int 8) (by decide)) (pu_int 3))).cast (decide_eq_false c2)) ?_
    refine pus_set (d := (formN m (c / 8 * 16807 % 65539) b).toD) (pu_call (pu_cons (pu_mod (pu_mul (pu_var rfl) (pu_int _) (cmul16 _)) (pu_int _) (by decide)) (pu_cons (deep rfl) (pu_cons (pu_var rfl) pu_nil))) rfl ⟨_, b, m, rfl, by omega, rfl⟩) ?_
    exact pus_ret (pu_tup (pu_cons (pu_ixL (pu_lst (pu_cons (pu_str _) (pu_cons (pu_str _) (pu_cons (pu_str _) pu_nil))) (by simp)) (pu_mod (pu_var rfl) (pu_int 3) (by decide)) (bwN_at c)) (pu_cons (pu_var rfl) (pu_cons (pu_var rfl) pu_nil))) (by simp))
theorem all_formula (D : Df K mg "_law_formula" sFormula ["_law_cell", "_law_deep_here", "_law_base"] f fd) (h_law_sign : Has P w K mg base 2 "_law_sign" ["_law_k", "_law_base"] (spPu K 2 gSign)) : ∀ n : Nat, Has P w K mg base (n + 2) "_law_formula" ["_law_cell", "_law_deep_here", "_law_base"] (spPu K 3 (gFormula n))
  | 0 => by
    have no : ∀ vs H Q E, ¬ spPu K 3 (gFormula 0) vs H Q E := fun vs H Q E h => by
      obtain ⟨M, ds, d, _, _, _, ⟨_, _, m, _, hm, _⟩, _⟩ := h
      omega
    exact D.has ⟨fun vs H Q E h => absurd h (no vs H Q E), fun A outer s H args us vs Q E _ _ _ _ h => absurd h (no vs H Q E)⟩
  | n + 1 => D.has (ok_formula D h_law_sign (all_formula D h_law_sign n))
theorem scWith : FnScope ["_law_row", "_law_more", "_law_found", "_law_f"] ["_law_row", "_law_more"] (defScope sWith) := ⟨rfl, rfl, rfl, by decide +kernel, rfl, by decide +kernel, by decide +kernel⟩
theorem ok_with (D : Df K mg "_law_with" sWith ["_law_row", "_law_more"] f fd) : FnOk P w K mg base CX0 1 f fd ["_law_row", "_law_more"] (spPu K 2 gWith) := by
  refine ok_puo D scWith fun cdv A outer s H E hr => ?_
  have hu : (A.deeper (envOfC "_law_with" (defScope sWith) s.heap.objs.size f cdv)).units + 65 < cLine := by have := hr.un; omega
  refine ⟨_, (pss_cons (ps_set (i := 2) scWith.nd rfl (by first | exact Or.inl rfl | exact Or.inr rfl) (pe_lst pa_nil))
    (pss_cons (ps_for PassesOwn.never rfl (pi_list (pe_op (r := rCatL K) op_catL (pv 0) (pv 1))) (pg_name (i := 3) scWith.nd rfl (by first | exact Or.inl rfl | exact Or.inr rfl)) (pss_one (ps_if (pt_cmpR (r := rNotInD K) (op_notInD hu) (pv 3) (pv 2) (by rfl)) (pss_one (ps_expr (pe_bm PySem.F.plainAttrs_list PySem.F.slot_list_append PySem.F.type_list_append mt_append (pv 2) (pa_cons (pv 3) pa_nil)))) pss_nil)))
    (pss_one (ps_ret (pv 2))))), ?_⟩
  rintro ds d hl ⟨A, B, rfl, sA, sB, lA, lB, rfl⟩
  refine puo_new (ds := []) pu_nil (by decide) ?_
  generalize hL : A ++ B = L
  have hs : Sh L := by rw [← hL]; exact sh_app sA sB
  have hn : L.length ≤ 2000 := by rw [← hL, List.length_append]; omega
  refine puo_seq (ρ' := [some (.d (lsD A)), some (.d (lsD B)), some (.o ((once L).map Fm.toD)), none]) ?_ (puo_ret (pu_var rfl))
  refine puo_for (xs := L) (td := Fm.toD) (k := L.length) (fun i => [some (.d (lsD A)), some (.d (lsD B)), some (.o ((once (L.take i)).map Fm.toD)), none]) (pui_list ?_) rfl (Nat.le_refl _) (fun i x _ hx => ⟨_, pgo_name 3, .inl ?_⟩) (.inl ⟨rfl, by rw [List.take_length]⟩)
  · exact (pu_cat (pu_var rfl) (pu_var rfl) (by rw [List.length_map, List.length_map]; omega)).cast (by rw [← List.map_append, hL])
  have len := Nat.le_trans (once_len (L.take i)) (by rw [List.length_take]; omega : (L.take i).length ≤ 2000)
  refine puo_forget (ρ' := [some (.d (lsD A)), some (.d (lsD B)), some (.o ((once (L.take (i + 1))).map Fm.toD)), some (.d x.toD)]) 3 ?_
  refine puo_if (pu_tTest (pu_notInD (d := x.toD) (ds := (once (L.take i)).map Fm.toD) (pu_var rfl) (pu_var rfl) (sh_fm hs (List.mem_of_getElem? hx)) (sh_shaped (sh_once (sh_take hs i))))) (fun c => ?_) (fun c => ?_)
  · rw [any_fm] at c
    have c : ¬ x ∈ once (L.take i) := by simpa using c
    rw [once_take hx, if_neg c, List.map_append]
    exact puo_append (i := 2) rfl (by rw [List.length_map]; omega) (pu_var rfl)
  · rw [any_fm] at c
    have c : x ∈ once (L.take i) := by simpa using c
    rw [once_take hx, if_pos c]
    exact puo_next
theorem scWithout : FnScope ["_law_row", "_law_f", "_law_one_here"] ["_law_row", "_law_f"] (defScope sWithout) := ⟨rfl, rfl, rfl, by decide +kernel, rfl, by decide +kernel, by decide +kernel⟩
theorem ok_without (D : Df K mg "_law_without" sWithout ["_law_row", "_law_f"] f fd) : FnOk P w K mg base CX0 1 f fd ["_law_row", "_law_f"] (spPu K 2 gWithout) := by
  refine ok_pu D scWithout fun cdv A outer s H E hr => ?_
  have hu : (A.deeper (envOfC "_law_without" (defScope sWithout) s.heap.objs.size f cdv)).units + 65 < cLine := by have := hr.un; omega
  refine ⟨_, (pss_one (ps_ret (pe_lc (own := [("_law_one_here", 2)]) (g := gName 2) rfl scWithout.nd (pi_list (pv 0)) (blkOk_by (N := ["_law_row", "_law_f", "_law_one_here"]) (sc := defScope sWithout) (by decide +kernel)) (fun _ _ _ _ _ => (pg_name (i := 2) scWithout.nd rfl (by first | exact Or.inl rfl | exact Or.inr rfl))) (fun _ _ _ _ _ => (pts_one (pt_cmpR (r := rNeD K) (op_neD (Nat.lt_of_succ_lt hu)) (pv 2) (pv 1) (nomark _)))) (fun _ _ _ _ _ => (pv 2))))), ?_⟩
  rintro ds d hl ⟨A, g, rfl, sA, hg, lA, rfl⟩
  refine .inl (pus_ret ?_)
  refine pu_fil (xs := A) (td := Fm.toD) (pui_list (pu_var rfl)) (by omega) (fun x => !decide (x = g)) Fm.toD fun x hx => ⟨?_, fun _ => pu_var rfl⟩
  exact (pu_tTest (pu_neD (d := x.toD) (e := g.toD) (pu_var rfl) (pu_var rfl) (sh_fm sA hx) (shaped_fm g (by omega)))).cast (by rw [Fm.toD_eqv])
theorem scWithin : FnScope ["_law_one_here", "_law_other", "_law_f"] ["_law_one_here", "_law_other"] (defScope sWithin) := ⟨rfl, rfl, rfl, by decide +kernel, rfl, by decide +kernel, by decide +kernel⟩
theorem pu_allIn {ρ : Rho} {ta tb : TE} {j : Nat} {L R : List Fm} (h : PuE K ta ρ (lsD L)) (hs : Sh L) (hr : Sh R) (hn : L.length ≤ 2000) (hj : j < ρ.length) (h2 : ∀ x ∈ L, PuE K tb (ρ.set j (some x.toD)) (lsD R)) :
    PuE K (tCB (rAll K) (tCons (tLc (iList K ta) (gName j) tYes (tOp (rInD K) (tVar j) tb) [j]) tNil)) ρ (.bool (decide (∀ f ∈ L, f ∈ R))) := by
  have e : decide (∀ f ∈ L, f ∈ R) = (L.map fun f => decide (f ∈ R)).all id := by
    rw [all_dec]
    exact decide_eq_decide.mpr ⟨fun h f hf => decide_eq_true (h f hf), fun h f hf => of_decide_eq_true (h f hf)⟩
  rw [e]
  refine pu_all ?_
  rw [List.map_map]
  refine pu_map (xs := L) (td := Fm.toD) (pui_list h) (by omega) _ fun x hx => ?_
  refine (pu_inD (d := x.toD) (ds := R.map Fm.toD) (pu_var (by rw [List.getElem?_set_self hj])) (h2 x hx) (sh_fm hs hx) (sh_shaped hr)).cast ?_
  rw [any_fm]
  rfl
theorem ok_within (D : Df K mg "_law_within" sWithin ["_law_one_here", "_law_other"] f fd) (B : Blt mg) : FnOk P w K mg base CX0 1 f fd ["_law_one_here", "_law_other"] (spPu K 2 gStandsIn) := by
  refine ok_pu D scWithin fun cdv A outer s H E hr => ?_
  have hu : (A.deeper (envOfC "_law_within" (defScope sWithin) s.heap.objs.size f cdv)).units + 65 < cLine := by have := hr.un; omega
  refine ⟨_, (pss_one (ps_ret (pe_and (pe_callB (r := rAll K) (cr_all rfl) (by rfl) B.all bt_all (pa_cons (pe_lc (own := [("_law_f", 2)]) (g := gName 2) (tt := tYes) rfl scWithin.nd (pi_list (pe_ix (r := rIxT K) ix_tup (pv 0) pe_int (fun _ _ => rfl))) (blkOk_by (N := ["_law_one_here", "_law_other", "_law_f"]) (sc := defScope sWithin) (by decide +kernel)) (fun _ _ _ _ _ => (pg_name (i := 2) scWithin.nd rfl (by first | exact Or.inl rfl | exact Or.inr rfl))) (fun _ _ _ _ _ => pts_nil) (fun _ _ _ _ _ => (pe_cmpR (r := rInD K) (op_inD hu) (pv 2) (pe_ix (r := rIxT K) ix_tup (pv 1) pe_int (fun _ _ => rfl)) (by rfl)))) pa_nil)) (pe_one (pe_callB (r := rAll K) (cr_all rfl) (by rfl) B.all bt_all (pa_cons (pe_lc (own := [("_law_f", 2)]) (g := gName 2) (tt := tYes) rfl scWithin.nd (pi_list (pe_ix (r := rIxT K) ix_tup (pv 0) pe_int (fun _ _ => rfl))) (blkOk_by (N := ["_law_one_here", "_law_other", "_law_f"]) (sc := defScope sWithin) (by decide +kernel)) (fun _ _ _ _ _ => (pg_name (i := 2) scWithin.nd rfl (by first | exact Or.inl rfl | exact Or.inr rfl))) (fun _ _ _ _ _ => pts_nil) (fun _ _ _ _ _ => (pe_cmpR (r := rInD K) (op_inD hu) (pv 2) (pe_ix (r := rIxT K) ix_tup (pv 1) pe_int (fun _ _ => rfl)) (by rfl)))) pa_nil)))))), ?_⟩
  rintro ds d hl ⟨a, b, rfl, ha, hb, rfl⟩
  refine .inl (pus_ret ?_)
  have e : decide (Sub a b) = (decide (∀ f ∈ a.1, f ∈ b.1) && decide (∀ f ∈ a.2, f ∈ b.2)) := by
    rw [← Bool.decide_and]
    exact decide_eq_decide.mpr Iff.rfl
  rw [e]
  exact pu_and (pu_allIn (pu_ixT (ds := [lsD a.1, lsD a.2]) (pu_var rfl) (pu_int 0) (cix0 a)) ha.1 hb.1 (by have := ha.2.2.1; omega) (by show 2 < 3; decide) fun x hx => pu_ixT (ds := [lsD b.1, lsD b.2]) (pu_var rfl) (pu_int 0) (cix0 b))
    fun _ => pu_allIn (pu_ixT (ds := [lsD a.1, lsD a.2]) (pu_var rfl) (pu_int 1) (cix1 a)) ha.2.1 hb.2.1 (by have := ha.2.2.2; omega) (by show 2 < 3; decide) fun x hx => pu_ixT (ds := [lsD b.1, lsD b.2]) (pu_var rfl) (pu_int 1) (cix1 b)
theorem scSplit : FnScope ["_law_f", "_law_side"] ["_law_f", "_law_side"] (defScope sSplit) := ⟨rfl, rfl, rfl, by decide +kernel, rfl, by decide +kernel, by decide +kernel⟩
theorem ok_split (D : Df K mg "_law_split" sSplit ["_law_f", "_law_side"] f fd) : FnOk P w K mg base CX0 1 f fd ["_law_f", "_law_side"] (spPu K 2 gSplit) := by
  refine ok_pu D scSplit fun cdv A outer s H E hr => ?_
  refine ⟨_, (pss_cons (ps_if (pt_cmpR op_eq (pe_ix (r := rIxT K) ix_tup (pv 0) pe_int (fun _ _ => rfl)) pe_str (nomark _)) (pss_one (ps_ret (pe_ifExp (pt_cmpR op_eq (pv 1) pe_int (nomark _)) (pe_lst (pa_cons (pe_tup (pa_cons (pe_lst pa_nil) (pa_cons (pe_lst (pa_cons (pe_ix (r := rIxT K) ix_tup (pv 0) pe_int (fun _ _ => rfl)) pa_nil)) pa_nil))) pa_nil)) (pe_lst (pa_cons (pe_tup (pa_cons (pe_lst (pa_cons (pe_ix (r := rIxT K) ix_tup (pv 0) pe_int (fun _ _ => rfl)) pa_nil)) (pa_cons (pe_lst pa_nil) pa_nil))) pa_nil))))) pss_nil)
    (pss_cons (ps_if (pt_cmpR op_eq (pe_ix (r := rIxT K) ix_tup (pv 0) pe_int (fun _ _ => rfl)) pe_str (nomark _)) (pss_one (ps_ret (pe_ifExp (pt_cmpR op_eq (pv 1) pe_int (nomark _)) (pe_lst (pa_cons (pe_tup (pa_cons (pe_lst (pa_cons (pe_ix (r := rIxT K) ix_tup (pv 0) pe_int (fun _ _ => rfl)) (pa_cons (pe_ix (r := rIxT K) ix_tup (pv 0) pe_int (fun _ _ => rfl)) pa_nil))) (pa_cons (pe_lst pa_nil) pa_nil))) pa_nil)) (pe_lst (pa_cons (pe_tup (pa_cons (pe_lst pa_nil) (pa_cons (pe_lst (pa_cons (pe_ix (r := rIxT K) ix_tup (pv 0) pe_int (fun _ _ => rfl)) pa_nil)) pa_nil))) (pa_cons (pe_tup (pa_cons (pe_lst pa_nil) (pa_cons (pe_lst (pa_cons (pe_ix (r := rIxT K) ix_tup (pv 0) pe_int (fun _ _ => rfl)) pa_nil)) pa_nil))) pa_nil)))))) pss_nil)
    (pss_cons (ps_if (pt_cmpR op_eq (pe_ix (r := rIxT K) ix_tup (pv 0) pe_int (fun _ _ => rfl)) pe_str (nomark _)) (pss_one (ps_ret (pe_ifExp (pt_cmpR op_eq (pv 1) pe_int (nomark _)) (pe_lst (pa_cons (pe_tup (pa_cons (pe_lst (pa_cons (pe_ix (r := rIxT K) ix_tup (pv 0) pe_int (fun _ _ => rfl)) pa_nil)) (pa_cons (pe_lst pa_nil) pa_nil))) (pa_cons (pe_tup (pa_cons (pe_lst (pa_cons (pe_ix (r := rIxT K) ix_tup (pv 0) pe_int (fun _ _ => rfl)) pa_nil)) (pa_cons (pe_lst pa_nil) pa_nil))) pa_nil))) (pe_lst (pa_cons (pe_tup (pa_cons (pe_lst pa_nil) (pa_cons (pe_lst (pa_cons (pe_ix (r := rIxT K) ix_tup (pv 0) pe_int (fun _ _ => rfl)) (pa_cons (pe_ix (r := rIxT K) ix_tup (pv 0) pe_int (fun _ _ => rfl)) pa_nil))) pa_nil))) pa_nil))))) pss_nil)
    (pss_one (ps_ret (pe_ifExp (pt_cmpR op_eq (pv 1) pe_int (nomark _)) (pe_lst (pa_cons (pe_tup (pa_cons (pe_lst pa_nil) (pa_cons (pe_lst (pa_cons (pe_ix (r := rIxT K) ix_tup (pv 0) pe_int (fun _ _ => rfl)) pa_nil)) pa_nil))) (pa_cons (pe_tup (pa_cons (pe_lst (pa_cons (pe_ix (r := rIxT K) ix_tup (pv 0) pe_int (fun _ _ => rfl)) pa_nil)) (pa_cons (pe_lst pa_nil) pa_nil))) pa_nil))) (pe_lst (pa_cons (pe_tup (pa_cons (pe_lst (pa_cons (pe_ix (r := rIxT K) ix_tup (pv 0) pe_int (fun _ _ => rfl)) pa_nil)) (pa_cons (pe_lst (pa_cons (pe_ix (r := rIxT K) ix_tup (pv 0) pe_int (fun _ _ => rfl)) pa_nil)) pa_nil))) pa_nil)))))))), ?_⟩
  rintro ds d hl ⟨g, r, rfl, hs, rfl⟩
  left
  have side : ∀ {ρ : Rho}, ρ[1]? = some (some (.int (if r = true then 1 else 0))) → PuT K (tTest (tOp rEq (tVar 1) (tC (.int 0)))) ρ (!r) := fun h => (pu_tTest (pu_eqI (pu_var h) (pu_int 0))).cast (by cases r <;> rfl)
  cases g with
  | sg i => cases hs
  | no g =>
    refine pus_take (pu_eqS1 (pu_fm0 (f := .no g) rfl) (pu_str _) rfl) (pus_ret (pu_if (side rfl) (fun c => ?_) (fun c => ?_)))
    · have c : r = false := by simpa using c
      subst c
      exact pu_cs1 (pu_c pu_l0 (pu_l1 (pu_no1 rfl)))
    · have c : r = true := by simpa using c
      subst c
      exact pu_cs1 (pu_c (pu_l1 (pu_no1 rfl)) pu_l0)
  | bi b g h =>
    refine pus_skip (pu_eqS0 (pu_fm0 (f := .bi b g h) rfl) (pu_str _) (txt_not b)) ?_
    cases b with
    | an =>
      refine pus_take (pu_eqS1 (pu_fm0 (f := .bi .an g h) rfl) (pu_str _) rfl) (pus_ret (pu_if (side rfl) (fun c => ?_) (fun c => ?_)))
      · have c : r = false := by simpa using c
        subst c
        exact pu_cs1 (pu_c (pu_l2 (pu_bi1 (w := .an) rfl) (pu_bi2 (w := .an) rfl)) pu_l0)
      · have c : r = true := by simpa using c
        subst c
        exact pu_cs2 (pu_c pu_l0 (pu_l1 (pu_bi1 (w := .an) rfl))) (pu_c pu_l0 (pu_l1 (pu_bi2 (w := .an) rfl)))
    | o =>
      refine pus_skip (pu_eqS0 (pu_fm0 (f := .bi .o g h) rfl) (pu_str _) w_oa) (pus_take (pu_eqS1 (pu_fm0 (f := .bi .o g h) rfl) (pu_str _) rfl) (pus_ret (pu_if (side rfl) (fun c => ?_) (fun c => ?_))))
      · have c : r = false := by simpa using c
        subst c
        exact pu_cs2 (pu_c (pu_l1 (pu_bi1 (w := .o) rfl)) pu_l0) (pu_c (pu_l1 (pu_bi2 (w := .o) rfl)) pu_l0)
      · have c : r = true := by simpa using c
        subst c
        exact pu_cs1 (pu_c pu_l0 (pu_l2 (pu_bi1 (w := .o) rfl) (pu_bi2 (w := .o) rfl)))
    | th =>
      refine pus_skip (pu_eqS0 (pu_fm0 (f := .bi .th g h) rfl) (pu_str _) w_ta) (pus_skip (pu_eqS0 (pu_fm0 (f := .bi .th g h) rfl) (pu_str _) w_to) (pus_ret (pu_if (side rfl) (fun c => ?_) (fun c => ?_))))
      · have c : r = false := by simpa using c
        subst c
        exact pu_cs2 (pu_c pu_l0 (pu_l1 (pu_bi1 (w := .th) rfl))) (pu_c (pu_l1 (pu_bi2 (w := .th) rfl)) pu_l0)
      · have c : r = true := by simpa using c
        subst c
        exact pu_cs1 (pu_c (pu_l1 (pu_bi1 (w := .th) rfl)) (pu_l1 (pu_bi2 (w := .th) rfl)))
end
end Lm
set_option Elab.async false
set_option linter.all false
set_option maxRecDepth 100000
set_option maxHeartbeats 400000
namespace Lm
open PySem PySem.Spec PyProof.Rows L2
section
variable {K : PySem.W.Frag} {ρ : Rho} {te ta tb : TE}
theorem pu_intB {b : Bool} (h : PuE K te ρ (.bool b)) : PuE K (tCB (fun xs H Q => (∃ i, xs = [V.int i] ∧ Q (.int i) H) ∨ ∃ k, xs = [V.bl k] ∧ Q (.int (if k then 1 else 0)) H) (tCons te tNil)) ρ (.int (if b = true then 1 else 0)) := fun M σ H hid en Q q =>
  h M σ H hid en _ fun v H1 e1 hv => .inr ⟨b, by rw [dp_blI hv], q _ H1 e1 (.int _)⟩
end
theorem ixN_nat {n j : Nat} (h : j < n) : ixN n (j : Int) = some j := by
  unfold ixN
  rw [if_pos (by omega), if_pos (by omega)]
  simp
theorem dpAll_set {K : PySem.W.Frag} {H : Hp} {v : V} {d : PyData} : ∀ {vs : List V} {ds : List PyData} (n : Nat), DpAll K H vs ds → Dp K H v d → DpAll K H (vs.set n v) (ds.set n d)
  | _, _, _, .nil, _ => .nil
  | _, _, 0, .cons h1 h2, h => .cons h h2
  | _, _, n + 1, .cons h1 h2, h => .cons h1 (dpAll_set n h2 h)
theorem rows_set {K : PySem.W.Frag} {ρ : RhoO} {i j k n : Nat} {ds : List PyData} {A : List Fm} {g : Fm} (hi : ρ[i]? = some (some (.o ds))) (hj : ρ[j]? = some (some (.d (.int (n : Int))))) (hk : ρ[k]? = some (some (.d g.toD))) (hn : ds[n]? = some (lsD A)) (sA : Sh A) (hg : g.dep ≤ 60) (lA : A.length ≤ 2000) :
    PuO K (tAsg (tCall (spPu K 2 gWithout) [] E0 (tCons (tOp (rIxL K) (tVar i) (tVar j)) (tCons (tVar k) tNil))) (gSub (tVar i) (tVar j) rSetL)) ρ (.nx (ρ.set i (some (.o (ds.set n (lsD (without A g))))))) := fun M H0 H σ ⟨M', en⟩ D q => by
  obtain ⟨p, vs, a, _, b, c1, c2, c3, c4⟩ := en.own i _ ds hi rfl
  obtain ⟨vj, aj, bj⟩ := en.dat j _ hj
  obtain ⟨vk, ak, bk⟩ := en.dat k _ hk
  obtain rfl := dp_intI bj
  obtain ⟨x, hx, dx⟩ := dpAll_at c4 hn
  have nl : n < vs.length := (List.getElem?_eq_some_iff.mp hx).1
  refine ⟨.ref p, a, .int n, aj, p, vs, n, x, rfl, rfl, SqL.of b, atI_nat hx, vk, ak, M', [lsD A, g.toD], lsD (without A g), en.hid, rfl, .cons dx (.cons bk .nil), ⟨A, g, rfl, sA, hg, lA, rfl⟩, fun v H1 e1 hv => ?_⟩
  have en1 := en.next e1
  refine ⟨.ref p, a, .int n, aj, p, vs, n, n, rfl, rfl, e1 _ _ b, ?_, q σ _ ⟨M', en1.write hi a ?_⟩⟩
  · exact ixN_nat nl
  · exact dpAll_set n (dpAll_same (vis_same e1) _ _ c4) hv
theorem lcl {c : Cl} (h : LowC c) : LowC (once c.1, once c.2) := ⟨sh_once h.1, sh_once h.2.1, Nat.le_trans (once_len _) h.2.2.1, Nat.le_trans (once_len _) h.2.2.2⟩
section
variable {P : Program} {w : World} {K : PySem.W.Frag} {mg : Str → Option Value} {base : Heap} {f : Addr} {fd : FuncData}
theorem scLWanted : FnScope ["_law_claim_here", "_law_rule", "_law_rows", "_law_f", "_law_side", "_law_one_here"] ["_law_claim_here", "_law_rule"] (defScope sLWanted) := ⟨rfl, rfl, rfl, by decide +kernel, rfl, by decide +kernel, by decide +kernel⟩
theorem pu_with {ρ : Rho} {ta tb : TE} {A B : List Fm} (h : PuE K ta ρ (lsD A)) (k : PuE K tb ρ (lsD B)) (sA : Sh A) (sB : Sh B) (lA : A.length ≤ 1000) (lB : B.length ≤ 1000) : PuE K (tCall (spPu K 2 gWith) [] E0 (tCons ta (tCons tb tNil))) ρ (lsD (once (A ++ B))) :=
  pu_call (pu_cons h (pu_cons k pu_nil)) rfl ⟨A, B, rfl, sA, sB, lA, lB, rfl⟩
theorem sh_nil : Sh [] := fun _ h => nomatch h
theorem sh_one {f : Fm} (h : f.dep ≤ 60) : Sh [f] := fun g hg => by rw [List.mem_singleton.mp hg]; exact h
theorem ok_lwanted (D : Df K mg "_law_wanted" sLWanted ["_law_claim_here", "_law_rule"] f fd) (B : Blt mg) (h_law_with : Has P w K mg base 1 "_law_with" ["_law_row", "_law_more"] (spPu K 2 gWith)) (h_law_without : Has P w K mg base 1 "_law_without" ["_law_row", "_law_f"] (spPu K 2 gWithout)) (h_law_within : Has P w K mg base 1 "_law_within" ["_law_one_here", "_law_other"] (spPu K 2 gStandsIn)) (h_law_split : Has P w K mg base 1 "_law_split" ["_law_f", "_law_side"] (spPu K 2 gSplit)) :
    FnOk P w K mg base CX0 2 f fd ["_law_claim_here", "_law_rule"] (spPu K 2 gLWanted) := by
  refine ok_puo D scLWanted fun cdv A outer s H E hr => ?_
  have hu : (A.deeper (envOfC "_law_wanted" (defScope sLWanted) s.heap.objs.size f cdv)).units + 65 < cLine := by have := hr.un; omega
  refine ⟨_, (pss_cons (ps_set (i := 2) scLWanted.nd rfl (by first | exact Or.inl rfl | exact Or.inr rfl) (pe_lst (pa_cons (pe_callH h_law_with (hr.mono (by omega)) (by rfl) (pa_cons (pe_ix (r := rIxT K) ix_tup (pv 0) pe_int (fun _ _ => rfl)) (pa_cons (pe_lst pa_nil) pa_nil))) (pa_cons (pe_callH h_law_with (hr.mono (by omega)) (by rfl) (pa_cons (pe_ix (r := rIxT K) ix_tup (pv 0) pe_int (fun _ _ => rfl)) (pa_cons (pe_lst pa_nil) pa_nil))) pa_nil))))
    (pss_cons (ps_set (i := 3) scLWanted.nd rfl (by first | exact Or.inl rfl | exact Or.inr rfl) (pe_ix (r := rIxT K) ix_tup (pv 1) pe_int (fun _ _ => rfl)))
    (pss_cons (ps_if (pt_cmpR op_eq (pe_ix (r := rIxT K) ix_tup (pv 1) pe_int (fun _ _ => rfl)) pe_str (nomark _)) (pss_one (ps_ret (pe_ifExp (pt_val (pe_callH h_law_within (hr.mono (by omega)) (by rfl) (pa_cons (pv 3) (pa_cons (pv 0) pa_nil)))) (pe_lst (pa_cons (pv 3) pa_nil)) pe_non))) pss_nil)
    (pss_cons (ps_if (pt_cmpR op_eq (pe_ix (r := rIxT K) ix_tup (pv 1) pe_int (fun _ _ => rfl)) pe_str (nomark _)) (pss_one (ps_ret (pe_lst (pa_cons (pe_tup (pa_cons (pe_ix (r := rIxL K) ix_list (pv 2) pe_int (fun _ _ => rfl)) (pa_cons (pe_callH h_law_with (hr.mono (by omega)) (by rfl) (pa_cons (pe_ix (r := rIxL K) ix_list (pv 2) pe_int (fun _ _ => rfl)) (pa_cons (pe_lst (pa_cons (pv 3) pa_nil)) pa_nil))) pa_nil))) (pa_cons (pe_tup (pa_cons (pe_callH h_law_with (hr.mono (by omega)) (by rfl) (pa_cons (pe_ix (r := rIxL K) ix_list (pv 2) pe_int (fun _ _ => rfl)) (pa_cons (pe_lst (pa_cons (pv 3) pa_nil)) pa_nil))) (pa_cons (pe_ix (r := rIxL K) ix_list (pv 2) pe_int (fun _ _ => rfl)) pa_nil))) pa_nil))))) pss_nil)
    (pss_cons (ps_if (pt_cmpR op_eq (pe_ix (r := rIxT K) ix_tup (pv 1) pe_int (fun _ _ => rfl)) pe_str (nomark _)) (pss_one (ps_ret (pe_ifExp (PW.pt (pw_and (pt_cmpR (r := rInD K) (op_inD hu) (pv 3) (pe_ix (r := rIxL K) ix_list (pv 2) pe_int (fun _ _ => rfl)) (by rfl)) (pw_and1 (pt_cmpR (r := rInD K) (op_inD hu) (pv 3) (pe_ix (r := rIxL K) ix_list (pv 2) pe_int (fun _ _ => rfl)) (by rfl))))) (pe_lst pa_nil) pe_non))) pss_nil)
    (pss_cons (ps_set (i := 4) scLWanted.nd rfl (by first | exact Or.inl rfl | exact Or.inr rfl) (pe_callTy call_int1 (by rfl) B.int bt_int (pa_cons (pe_cmpR op_eq (pe_ix (r := rIxT K) ix_tup (pv 1) pe_int (fun _ _ => rfl)) pe_str (nomark _)) pa_nil)))
    (pss_cons (ps_if (PW.pt (pw_or (pt_cmpR (r := rNotInD K) (op_notInD hu) (pv 3) (pe_ix (r := rIxL K) ix_list (pv 2) (pv 4) (fun _ _ => rfl)) (by rfl)) (pw_or1 (pt_cmpR op_eq (pe_ix (r := rIxT K) ix_tup (pv 3) pe_int (fun _ _ => rfl)) pe_str (nomark _))))) (pss_one (ps_ret pe_non)) pss_nil)
    (pss_cons (ps_asg (pe_callH h_law_without (hr.mono (by omega)) (by rfl) (pa_cons (pe_ix (r := rIxL K) ix_list (pv 2) (pv 4) (fun _ _ => rfl)) (pa_cons (pv 3) pa_nil))) (pg_sub (pv 2) (pv 4) set_list))
    (pss_one (ps_ret (pe_lc (own := [("_law_one_here", 5)]) (g := gName 5) (tt := tYes) rfl scLWanted.nd (pi_list (pe_callH h_law_split (hr.mono (by omega)) (by rfl) (pa_cons (pv 3) (pa_cons (pv 4) pa_nil)))) (blkOk_by (N := ["_law_claim_here", "_law_rule", "_law_rows", "_law_f", "_law_side", "_law_one_here"]) (sc := defScope sLWanted) (by decide +kernel)) (fun _ _ _ _ _ => (pg_name (i := 5) scLWanted.nd rfl (by first | exact Or.inl rfl | exact Or.inr rfl))) (fun _ _ _ _ _ => pts_nil) (fun _ _ _ _ _ => (pe_tup (pa_cons (pe_callH h_law_with (hr.mono (by omega)) (by rfl) (pa_cons (pe_ix (r := rIxL K) ix_list (pv 2) pe_int (fun _ _ => rfl)) (pa_cons (pe_ix (r := rIxT K) ix_tup (pv 5) pe_int (fun _ _ => rfl)) pa_nil))) (pa_cons (pe_callH h_law_with (hr.mono (by omega)) (by rfl) (pa_cons (pe_ix (r := rIxL K) ix_list (pv 2) pe_int (fun _ _ => rfl)) (pa_cons (pe_ix (r := rIxT K) ix_tup (pv 5) pe_int (fun _ _ => rfl)) pa_nil))) pa_nil))))))))))))))), ?_⟩
  rintro ds d hl ⟨c, ru, rfl, hc, hru, rfl⟩
  have lo := lcl hc
  have row0 : ∀ {ρ : Rho}, ρ[0]? = some (some c.toD) → PuE K (tCall (spPu K 2 gWith) [] E0 (tCons (tOp (rIxT K) (tVar 0) (tC (.int 0))) (tCons (tLst tNil) tNil))) ρ (lsD (once c.1)) := fun h =>
    (pu_with (A := c.1) (B := []) (pu_ixT (ds := [lsD c.1, lsD c.2]) (pu_var h) (pu_int 0) (cix0 c)) pu_l0 hc.1 sh_nil hc.2.2.1 (by decide)).cast (by rw [List.append_nil])
  have row1 : ∀ {ρ : Rho}, ρ[0]? = some (some c.toD) → PuE K (tCall (spPu K 2 gWith) [] E0 (tCons (tOp (rIxT K) (tVar 0) (tC (.int 1))) (tCons (tLst tNil) tNil))) ρ (lsD (once c.2)) := fun h =>
    (pu_with (A := c.2) (B := []) (pu_ixT (ds := [lsD c.1, lsD c.2]) (pu_var h) (pu_int 1) (cix1 c)) pu_l0 hc.2.1 sh_nil hc.2.2.2 (by decide)).cast (by rw [List.append_nil])
  refine puo_new (ds := [lsD (once c.1), lsD (once c.2)]) (pu_cons (row0 rfl) (pu_cons (row1 rfl) pu_nil)) (by simp) ?_
  -- the rows' items
  have it0 : ∀ {ρ : Rho} {L R : List Fm}, ρ[2]? = some (some (.list [lsD L, lsD R])) → PuE K (tOp (rIxL K) (tVar 2) (tC (.int 0))) ρ (lsD L) := fun h => pu_ixL (ds := [lsD _, lsD _]) (pu_var h) (pu_int 0) (tix0 _ _ _)
  have it1 : ∀ {ρ : Rho} {L R : List Fm}, ρ[2]? = some (some (.list [lsD L, lsD R])) → PuE K (tOp (rIxL K) (tVar 2) (tC (.int 1))) ρ (lsD R) := fun h => pu_ixL (ds := [lsD _, lsD _]) (pu_var h) (pu_int 1) (tix1 _ _ _)
  cases ru with
  | more m =>
    have hm : LowC m := hru
    have r0 : ∀ {ρ : Rho}, ρ[1]? = some (some (Ru.more m).toD) → PuE K (tOp (rIxT K) (tVar 1) (tC (.int 0))) ρ (.str ("more" : Str)) := fun h => pu_ixT (ds := [.str ("more" : Str), m.toD]) (pu_var h) (pu_int 0) (tix0 _ _ _)
    refine puo_set (d := m.toD) (pu_ixT (ds := [.str ("more" : Str), m.toD]) (pu_var rfl) (pu_int 1) (tix1 _ _ _)) ?_
    refine puo_ifr (b := true) ((pu_tTest (pu_eqS (r0 rfl) (pu_str _))).cast (decide_eq_true rfl)) (fun _ => ⟨_, rfl, puo_ret (pu_if (pu_tB (pu_call (pu_cons (pu_var rfl) (pu_cons (pu_var rfl) pu_nil)) rfl ⟨m, c, rfl, hm, hc, rfl⟩)) (fun z => ?_) (fun z => ?_))⟩) (fun z => nomatch z)
    · rw [lwants, if_pos (of_decide_eq_true z)]
      exact pu_cs1 (pu_var rfl)
    · rw [lwants, if_neg (of_decide_eq_false z)]
      exact pu_non
  | fm v g =>
    have hg : g.dep ≤ 60 := hru
    have r0 : ∀ {ρ : Rho}, ρ[1]? = some (some (Ru.fm v g).toD) → PuE K (tOp (rIxT K) (tVar 1) (tC (.int 0))) ρ (.str v.txt) := fun h => pu_ixT (ds := [.str v.txt, g.toD]) (pu_var h) (pu_int 0) (tix0 _ _ _)
    have rw0 : ∀ {ρ : Rho} {z : Str}, ρ[1]? = some (some (Ru.fm v g).toD) → PuT K (tTest (tOp rEq (tOp (rIxT K) (tVar 1) (tC (.int 0))) (tC (.str z)))) ρ (decide (v.txt = z)) := fun h => pu_tTest (pu_eqS (r0 h) (pu_str _))
    refine puo_set (d := g.toD) (pu_ixT (ds := [.str v.txt, g.toD]) (pu_var rfl) (pu_int 1) (tix1 _ _ _)) ?_
    refine puo_ifr (b := false) ((rw0 rfl).cast (decide_eq_false (wtxt_more v))) (fun z => nomatch z) fun _ => ?_
    have sg1 : Sh [g] := sh_one hg
    refine puo_ifr (rw0 rfl) (fun z => ?_) (fun z => ?_)
    · have z : v = .lem := wtxt_inj (of_decide_eq_true z)
      subst z
      refine ⟨_, rfl, puo_ret (pu_cs2 (pu_c (it0 rfl) (pu_with (it1 rfl) (pu_l1 (pu_var rfl)) lo.2.1 sg1 lo.2.2.2 (by simp))) (pu_c (pu_with (it0 rfl) (pu_l1 (pu_var rfl)) lo.1 sg1 lo.2.2.1 (by simp)) (it1 rfl)))⟩
    have nl : ¬ v = .lem := fun y => by rw [y] at z; exact absurd (of_decide_eq_false z) (fun n => n rfl)
    have shg : SeqAt.shaped g.toD = true := shaped_fm g (by omega)
    refine puo_ifr (rw0 rfl) (fun z => ?_) (fun z => ?_)
    · have z : v = .same := wtxt_inj (of_decide_eq_true z)
      subst z
      refine ⟨_, rfl, puo_ret (pu_if (b := decide (g ∈ once c.1) && decide (g ∈ once c.2)) (pu_tAnd ((pu_tTest (pu_inD (pu_var rfl) (it0 rfl) shg (sh_shaped lo.1))).cast (by rw [any_fm])) fun _ => (pu_tTest (pu_inD (pu_var rfl) (it1 rfl) shg (sh_shaped lo.2.1))).cast (by rw [any_fm])) (fun z => ?_) (fun z => ?_))⟩
      · rw [Bool.and_eq_true, decide_eq_true_eq, decide_eq_true_eq] at z
        rw [lwants, if_pos z]
        exact pu_lst (ds := []) pu_nil (by decide)
      · rw [lwants, if_neg fun y => by rw [decide_eq_true y.1, decide_eq_true y.2] at z; cases z]
        exact pu_non
    have ns : ¬ v = .same := fun y => by rw [y] at z; exact absurd (of_decide_eq_false z) (fun n => n rfl)
    have two : v = .left ∨ v = .right := by cases v <;> first | exact .inl rfl | exact .inr rfl | exact absurd rfl nl | exact absurd rfl ns
    obtain ⟨r, hr'⟩ : ∃ r : Bool, v = if r = true then .right else .left := by
      rcases two with z | z
      · exact ⟨false, z⟩
      · exact ⟨true, z⟩
    have side : decide (v.txt = ("right" : Str)) = r := by
      subst hr'
      cases r <;> decide +kernel
    refine puo_setF (d := .int (if r = true then 1 else 0)) rfl ((pu_intB (pu_eqS (r0 rfl) (pu_str _))).cast (by rw [side])) ?_
    generalize hA : (if r = true then once c.2 else once c.1) = A
    have sA : Sh A ∧ A.length ≤ 1000 := by
      rw [← hA]
      cases r
      · exact ⟨lo.1, lo.2.2.1⟩
      · exact ⟨lo.2.1, lo.2.2.2⟩
    have itA : ∀ {ρ : Rho}, ρ[2]? = some (some (.list [lsD (once c.1), lsD (once c.2)])) → ρ[4]? = some (some (.int (if r = true then 1 else 0))) → PuE K (tOp (rIxL K) (tVar 2) (tVar 4)) ρ (lsD A) := fun h h4 => by
      rw [← hA]
      cases r
      · exact pu_ixL (ds := [lsD (once c.1), lsD (once c.2)]) (pu_var h) (pu_var h4) (tix0 _ _ _)
      · exact pu_ixL (ds := [lsD (once c.1), lsD (once c.2)]) (pu_var h) (pu_var h4) (tix1 _ _ _)
    have lw : lwants c (.fm v g) = if g ∈ A ∧ g.isSg = false then some ((if r = true then putR g else putL g).map fun p => (once ((if r = true then once c.1 else without (once c.1) g) ++ p.1), once ((if r = true then without (once c.2) g else once c.2) ++ p.2))) else none := by
      rw [hr', ← hA]
      cases r <;> rfl
    refine puo_ifr (b := !decide (g ∈ A) || g.isSg) (pu_tOr ((pu_tTest (pu_notInD (pu_var rfl) (itA rfl rfl) shg (sh_shaped sA.1))).cast (by rw [any_fm])) fun _ => (pu_tTest (pu_eqS (pu_fm0 rfl) (pu_str _))).cast (wd_sg g)) (fun z => ?_) (fun z => ?_)
    · rw [lw, if_neg fun y => by rw [decide_eq_true y.1, y.2] at z; cases z]
      exact ⟨_, rfl, puo_ret pu_non⟩
    · have z1 : g ∈ A ∧ g.isSg = false := by simpa using z
      rw [lw, if_pos z1]
      have lenp : ((if r = true then putR g else putL g)).length ≤ 2 := by cases r with | false => exact putIn_len .left g | true => exact putIn_len .right g
      have nd : (if r = true then (1 : Int) else 0) = ((if r = true then 1 else 0 : Nat) : Int) := by cases r <;> rfl
      refine puo_seq (rows_set (i := 2) (j := 4) (k := 3) (n := if r = true then 1 else 0) (A := A) (g := g) rfl (by rw [← nd]; rfl) rfl (by rw [← hA]; cases r <;> rfl) sA.1 hg (by omega)) (puo_ret ?_)
      have e2 : ∀ n : Nat, n = (if r = true then 1 else 0) → [lsD (once c.1), lsD (once c.2)].set n (lsD (without A g)) = [lsD (if r = true then once c.1 else without (once c.1) g), lsD (if r = true then without (once c.2) g else once c.2)] := fun n hn => by
        rw [hn, ← hA]
        cases r <;> rfl
      rw [e2 _ rfl]
      dsimp only [optD]
      rw [List.map_map]
      refine pu_map (xs := if r = true then putR g else putL g) (td := Cl.toD) (pui_list ?_) (by omega) _ fun p hp => ?_
      · exact pu_call (pu_cons (pu_var rfl) (pu_cons (pu_var rfl) pu_nil)) rfl ⟨g, r, rfl, z1.2, rfl⟩
      · have low : Sh p.1 ∧ Sh p.2 ∧ p.1.length ≤ 2 ∧ p.2.length ≤ 2 := by
          cases r
          · exact putIn_low (w := .left) hg hp
          · exact putIn_low (w := .right) hg hp
        have sL : Sh (if r = true then once c.1 else without (once c.1) g) ∧ (if r = true then once c.1 else without (once c.1) g).length ≤ 1000 := by
          cases r
          · exact ⟨sh_without lo.1 g, Nat.le_trans (without_len _ _) lo.2.2.1⟩
          · exact ⟨lo.1, lo.2.2.1⟩
        have sR : Sh (if r = true then without (once c.2) g else once c.2) ∧ (if r = true then without (once c.2) g else once c.2).length ≤ 1000 := by
          cases r
          · exact ⟨lo.2.1, lo.2.2.2⟩
          · exact ⟨sh_without lo.2.1 g, Nat.le_trans (without_len _ _) lo.2.2.2⟩
        exact pu_c (pu_with (it0 rfl) (pu_ixT (ds := [lsD p.1, lsD p.2]) (pu_var rfl) (pu_int 0) (cix0 p)) sL.1 low.1 sL.2 (by omega)) (pu_with (it1 rfl) (pu_ixT (ds := [lsD p.1, lsD p.2]) (pu_var rfl) (pu_int 1) (cix1 p)) sR.1 low.2.1 sR.2 (by omega))
theorem scLWords : FnScope ["_law_f", "_law_inner"] ["_law_f"] (defScope sLWords) := ⟨rfl, rfl, rfl, by decide +kernel, rfl, by decide +kernel, by decide +kernel⟩
theorem pu_tail {ρ : Rho} {te : TE} {d0 : PyData} {ds : List PyData} (h : PuE K te ρ (.tuple (d0 :: ds))) : PuE K (tSl (rSlT K) te (tPart (tC (.int 1))) tNoPart) ρ (.tuple ds) := fun M σ H hid en Q q => h M σ H hid en _ fun v H1 e1 hv => by
  obtain ⟨a, vs, rfl, hs, ha⟩ := dp_tupI hv
  cases ha with
  | @cons x xs _ _ h1 h2 =>
    refine ⟨1, rfl, a, _, rfl, sqT_same vis_sub hs, cutNot _ _, fun p np => ?_⟩
    rw [cut1a]
    exact q (.ref p) _ (e1.trans (same_new np _)) (.tup (SqT.of (vis_new (hid.same e1) np)) (dpAll_same (vis_same (same_new np _)) _ _ h2))
def tailD : Fm → List PyData
  | .sg i => [.int i]
  | .no g => [g.toD]
  | .bi _ g h => [g.toD, h.toD]
theorem toD_tail (g : Fm) : g.toD = .tuple (.str g.wd :: tailD g) := by cases g <;> rfl
theorem isTu_fm (g : Fm) : isTu g.toD = true := by cases g <;> rfl
theorem tail_sum (g : Fm) : 1 + (((tailD g).filter isTu).map fun d => (sizeD d : Int)).sum = (g.size : Int) := by
  cases g with
  | sg i => rfl
  | no g =>
    have e : (tailD (.no g)).filter isTu = [g.toD] := by
      show [g.toD].filter isTu = _
      rw [List.filter_cons_of_pos (isTu_fm g)]
      rfl
    rw [e]
    show 1 + ((sizeD g.toD : Int) + 0) = ((g.size + 1 : Nat) : Int)
    rw [sizeD_fm]
    omega
  | bi b g h =>
    have e : (tailD (.bi b g h)).filter isTu = [g.toD, h.toD] := by
      show [g.toD, h.toD].filter isTu = _
      rw [List.filter_cons_of_pos (isTu_fm g), List.filter_cons_of_pos (isTu_fm h)]
      rfl
    rw [e]
    show 1 + ((sizeD g.toD : Int) + ((sizeD h.toD : Int) + 0)) = ((g.size + h.size + 1 : Nat) : Int)
    rw [sizeD_fm, sizeD_fm]
    omega
theorem tail_len (g : Fm) : (tailD g).length ≤ 2 := by cases g <;> simp [tailD]
theorem tail_fm {g : Fm} {d : PyData} (h : d ∈ tailD g) (t : isTu d = true) : ∃ k : Fm, d = k.toD ∧ k ∈ g.kids := by
  cases g with
  | sg i =>
    rw [List.mem_singleton.mp h] at t
    cases t
  | no g => exact ⟨g, List.mem_singleton.mp h, List.mem_singleton.mpr rfl⟩
  | bi b g k =>
    rcases List.mem_cons.mp h with rfl | h
    · exact ⟨g, rfl, List.mem_cons_self⟩
    · exact ⟨k, List.mem_singleton.mp h, List.mem_cons_of_mem _ List.mem_cons_self⟩
theorem ok_lwords {n : Nat} (D : Df K mg "_law_words" sLWords ["_law_f"] f fd) (B : Blt mg) (b_sum : mg "sum" = none) (h_law_words : Has P w K mg base (n + 1) "_law_words" ["_law_f"] (spPu K 1 (gLWords n))) : FnOk P w K mg base CX0 (n + 2) f fd ["_law_f"] (spPu K 1 (gLWords (n + 1))) := by
  refine ok_pu D scLWords fun cdv A outer s H E hr => ?_
  refine ⟨_, (pss_one (ps_ret (pe_op op_add pe_int (pe_callB (r := rSum K) (cr_sum rfl) (by rfl) b_sum bt_sum (pa_cons (pe_lc (own := [("_law_inner", 1)]) (g := gName 1) rfl scLWords.nd (pi_tup (pe_slice sl_tup (pv 0) (po_some pe_int) po_none)) (blkOk_by (N := ["_law_f", "_law_inner"]) (sc := defScope sLWords) (by decide +kernel)) (fun _ _ _ _ _ => (pg_name (i := 1) scLWords.nd rfl (by first | exact Or.inl rfl | exact Or.inr rfl))) (fun _ _ _ _ _ => (pts_one (pt_val (pe_callB (r := rIsi K) call_isi (by rfl) B.isinstance bt_isinstance (pa_cons (pv 1) (pa_cons (pe_bltn (v := .ty "tuple") (by rfl) B.tuple bt_tuple rfl) pa_nil)))))) (fun _ _ _ _ _ => (pe_callH h_law_words (hr.mono (by omega)) (by rfl) (pa_cons (pv 1) pa_nil)))) pa_nil))))), ?_⟩
  rintro ds d hl ⟨g, rfl, hg, rfl⟩
  left
  refine pus_ret ((pu_add (pu_int 1) (pu_sum (ns := ((tailD g).filter isTu).map fun d => (sizeD d : Int)) ?_)).cast (by rw [tail_sum]))
  rw [List.map_map]
  refine pu_fil (xs := tailD g) (td := id) (pui_tup ?_) (Nat.le_trans (tail_len g) (by decide)) isTu _ fun x hx => ⟨?_, fun t => ?_⟩
  · rw [List.map_id]
    exact pu_tail (d0 := .str g.wd) ((pu_var rfl).cast (toD_tail g))
  · exact pu_tB (pu_isTup (pu_var rfl))
  · obtain ⟨k, rfl, hk⟩ := tail_fm hx t
    have := kid_dep hk
    exact pu_call (pu_cons (pu_var rfl) pu_nil) rfl ⟨k, rfl, by omega, by show PyData.int (sizeD k.toD : Int) = _; rw [sizeD_fm]⟩
theorem all_lwords (D : Df K mg "_law_words" sLWords ["_law_f"] f fd) (B : Blt mg) (b_sum : mg "sum" = none) : ∀ n : Nat, Has P w K mg base (n + 1) "_law_words" ["_law_f"] (spPu K 1 (gLWords n))
  | 0 => by
    have no : ∀ vs H Q E, ¬ spPu K 1 (gLWords 0) vs H Q E := fun vs H Q E h => by
      obtain ⟨M, ds, d, _, _, _, ⟨_, _, hm, _⟩, _⟩ := h
      omega
    exact D.has ⟨fun vs H Q E h => absurd h (no vs H Q E), fun A outer s H args us vs Q E _ _ _ _ h => absurd h (no vs H Q E)⟩
  | n + 1 => D.has (ok_lwords D B b_sum (all_lwords D B b_sum n))
end
end Lm
set_option Elab.async false
set_option linter.all false
set_option maxRecDepth 100000
set_option maxHeartbeats 400000
namespace Lm
open PySem PySem.Spec PyProof.Rows L2
def spLaw (K : PySem.W.Frag) : Sp := fun vs H Q _ => ∃ (a : Addr) (ns : List Int), vs = [.ref a] ∧ SqL K H a (ns.map V.int) ∧ ns.length ≤ 63 ∧ ∀ H', Q (.bl true) H'
/-- wanted, of a claim -/
def spWantedC (K : PySem.W.Frag) : Sp := fun vs H Q _ => ∃ (v u : V) (c : Cl) (d : PyData), vs = [v, u] ∧ Dp K H v c.toD ∧ Dp K H u d ∧ GdC c ∧ wordsC c ≤ 60 ∧ shortR d ∧
  (∀ ru : Ru, d = ru.toD → ru.ok → fits c ru = true → ∀ p ys H', Same H H' → H p = none → H' p = some (.lst ys) → Paired (NewCl K (upd H p (.lst [])) H') ys (wants c ru) → Q (.ref p) H') ∧
  ((∀ ru : Ru, d = ru.toD → ru.ok → fits c ru = false) → ∀ H', Same H H' → Q .non H')
theorem calm_wanted {P : Program} {w : World} {K : PySem.W.Frag} {mg : Str → Option Value} {base : Heap} {k : Nat} {C0 : Addr} (h : HasN P w K mg base k "wanted" ["claim", "rule"] (spWanted K C0)) : Has P w K mg base k "wanted" ["claim", "rule"] (spWantedC K) := by
  refine h.calm fun vs H Q E q => ?_
  obtain ⟨v, u, c, d, rfl, hv, hu, gc, wc, sr, q1, q2⟩ := q
  refine ⟨v, u, c.toD, d, rfl, hv, hu, cl_short wc, sr, fun c' e g' w' => ?_, fun n => ?_⟩
  · obtain rfl := clD_inj e
    exact ⟨q1, q2⟩
  · rw [isC_cl gc, decide_eq_true wc] at n
    cases n
theorem newcls_vis {K : PySem.W.Frag} {M : Addr → Bool} {H H' : Hp} {p : Addr} (hid : Hid M H) (e : Same H H') : ∀ {ys : List V} {cs : List Cl}, Paired (NewCl K (upd H p (.lst [])) H') ys cs → (∀ q, upd H p (.lst []) q = none → H q = none) → DpAll K (vis M H') ys (cs.map Cl.toD)
  | _, _, .nil, _ => .nil
  | _, _, .cons h t, o => by
    refine .cons ?_ (newcls_vis hid e t o)
    obtain ⟨t, a, b, xs, ys, h1, h2, h3, h4, h5⟩ := h
    exact NewCl.vis hid e ⟨t, a, b, xs, ys, h1, h2, o a h3, o b h4, h5⟩
theorem upd_none {H : Hp} {p q : Addr} {o : HO} (h : upd H p o q = none) : H q = none := by
  by_cases z : q = p
  · rw [z, upd_same] at h; cases h
  · rw [upd_ne z] at h; exact h
/-- what wanted tells -/
def WantD (c : Cl) (d : PyData) (r : Option (List Cl)) : Prop := (∃ ru : Ru, d = ru.toD ∧ ru.ok ∧ fits c ru = true ∧ r = some (wants c ru)) ∨ ((∀ ru : Ru, d = ru.toD → ru.ok → fits c ru = false) ∧ r = none)
theorem wantD_no {c : Cl} {ru : Ru} (ok : ru.ok) (h : ∀ ru' : Ru, ru.toD = ru'.toD → ru'.ok → fits c ru' = false) (f : fits c ru = true) : False := by
  have := h ru rfl ok
  rw [f] at this
  cases this
theorem pu_wanted {K : PySem.W.Frag} {ρ : Rho} {ta tb : TE} {c : Cl} {d : PyData} {r : Option (List Cl)} (h : PuE K ta ρ c.toD) (k : PuE K tb ρ d) (gc : GdC c) (wc : wordsC c ≤ 60) (sr : shortR d) (hr : WantD c d r) : PuE K (tCall (spWantedC K) [] E0 (tCons ta (tCons tb tNil))) ρ (optD r) := fun M σ H hid en Q q =>
  h M σ H hid en _ fun v H1 e1 hv => k M σ H1 (hid.same e1) (en.same (vis_same e1)) _ fun u H2 e2 hu => by
    refine ⟨v, u, c, d, rfl, dp_same ((vis_same e2).trans vis_sub) _ _ hv, dp_same vis_sub _ _ hu, gc, wc, sr, fun ru e ok hf p ys H3 e3 np hp hys => ?_, fun no H3 e3 => ?_⟩
    · rcases hr with ⟨ru', e', ok', hf', rfl⟩ | ⟨no, _⟩
      · obtain rfl := ruD_inj (e'.symm.trans e)
        have hid2 := hid.same (e1.trans e2)
        refine q (.ref p) H3 (e1.trans (e2.trans e3)) (.lst (SqL.of ?_) (newcls_vis hid2 e3 hys fun q z => upd_none z))
        unfold vis
        rw [hid2.non np, if_neg Bool.false_ne_true]
        exact hp
      · exact absurd hf (by rw [no ru e ok]; decide)
    · rcases hr with ⟨ru', e', ok', hf', rfl⟩ | ⟨_, rfl⟩
      · exact absurd hf' (by rw [no ru' e' ok']; decide)
      · exact q .non H3 (e1.trans (e2.trans e3)) .non
end Lm
set_option Elab.async false
set_option linter.all false
set_option maxRecDepth 100000
set_option maxHeartbeats 1000000
/-! min, max; enumerate: pure readings -/
namespace PySem
open Sem (wp)
section
variable {prog : Program} {w : World} {A : Around} {E : Value → Shared → Prop} {s : Shared}
theorem F.args_min4L (a b c d : Value) : argsOk "min" ⟨[a, b, c, d], []⟩ := by unfold argsOk; kernel_rfl
theorem call_min_fourL {a b c d : Value} {Q : Value → Shared → Prop}
    (h : wpAny (model prog w) A.in1 (pyIter (.ref s.heap.objs.size)) (fun it s₂ => ∃ I fp wr n P St bt, it = .ref I ∧ Walks prog w A.in1 I fp wr n P St ∧ St 0 s₂.heap ∧ (∀ b ∈ fp, b < s₂.heap.objs.size) ∧ 0 < n ∧ CmpOf prog w A.in1 .Lt P bt ∧
      ∀ v h' tk, P (argBest bt (n - 1)) v → (∀ b o, b ∉ wr → s₂.heap.get? b = some o → h'.get? b = some o) → Q v { s₂ with heap := h', toks := tk }) E
      { s with heap := s.heap.push { cls := .type "tuple", data := .seq #[a, b, c, d] } }) :
    wpAny (model prog w) A (call (.builtin "min") [a, b, c, d]) Q E s := by
  have hname : (toString "min" ++ toString ".loop" : String) = "min.loop" := by decide
  refine call_function_tree F.kind_min F.plain_min F.entry_min (F.args_min4L _ _ _ _) ?_
  show wpAny _ A.in1 (Builtin.Builtins.bindParams "min" ["key", "default"] 0 ⟨[], []⟩ >>= _) _ _ s
  refine wpAny_bind (wpAny_of_eq (show Builtin.Builtins.bindParams "min" ["key", "default"] 0 ⟨[], []⟩ = pure [none, none] from rfl) ?_)
  show wpAny _ A.in1 (newTuple [a, b, c, d] >>= _) _ _ s
  refine wpAny_bind (wpAny_newObj_type ?_)
  refine wpAny_bind (wpAny_mono h (fun it s₂ h₂ => ?_) fun _ _ e => e)
  obtain ⟨I, fp, wr, n, P, St, bt, rfl, W, hst, hfp, hn, hcmp, hQ⟩ := h₂
  refine wpAny_bind (wpAny_newObj_type ?_)
  have hSf : s₂.heap.objs.size ∉ fp := fun hm => Nat.lt_irrefl _ (hfp _ hm)
  rw [hname]
  refine wpAny_pure ⟨plainId_quiet F.plain_min_loop _, codeAny_min_loop_first W bt hcmp s₂.heap.objs.size hSf hn (W.frame _ _ _ hst fun b _ o e => Heap.get?_push_of_some _ e) (Heap.get?_push_size _ rfl) fun v h' tk hP hk => ?_⟩
  exact hQ v h' tk hP fun b o hbw e => hk b o hbw (Nat.ne_of_lt (Heap.lt_size e)) (Heap.get?_push_of_some _ e)
end
end PySem
namespace Lm
open PySem PySem.Spec PyProof.Rows L2
section
variable {prog : Program} {w : World} {A : Around} {E : Value → Shared → Prop} {s : Shared}
theorem min_four_ints {a b c d : Int} {t u x y : Tok} {Q : Value → Shared → Prop} (hh : A.handled = none)
    (h : ∀ h' tk m t', (∀ d o, s.heap.get? d = some o → h'.get? d = some o) → m ∈ [a, b, c, d] → (∀ z ∈ [a, b, c, d], m ≤ z) → Q (.int m t') { s with heap := h', toks := tk }) :
    wpAny (model prog w) A (call (.builtin "min") [.int a t, .int b u, .int c x, .int d y]) Q E s := by
  have hT : (s.heap.push { cls := .type "tuple", data := .seq #[.int a t, .int b u, .int c x, .int d y] }).IsTuple s.heap.objs.size (intItems #[(a, t), (b, u), (c, x), (d, y)]) := ⟨_, Heap.get?_push_size _ rfl, rfl, 0, by simp [intItems]⟩
  refine call_min_fourL (wpAny_pyIter_tuple hT ?_)
  have hsz : (s.heap.push { cls := .type "tuple", data := .seq #[.int a t, .int b u, .int c x, .int d y] }).objs.size = s.heap.objs.size + 1 := Heap.size_push ..
  refine ⟨_, [_, s.heap.objs.size], [_], _, _, _, _, rfl, Walks.tuple (A := A.in1) hh _ s.heap.objs.size (by rw [hsz]; exact Nat.ne_of_lt (Nat.lt_succ_self _)) (intItems #[(a, t), (b, u), (c, x), (d, y)]),
    ⟨⟨_, Heap.get?_push_size _ rfl, rfl, rfl⟩, hT.push _⟩, fun d hd => ?_, by simp [intItems], CmpOf.ints_lt (numAt #[(a, t), (b, u), (c, x), (d, y)]) (fun _ _ => intItems_at), fun v h' tk hP hk => ?_⟩
  · show d < ((s.heap.push _).push _).objs.size
    rw [Heap.size_push, hsz]
    rcases List.mem_cons.mp hd with rfl | hd
    · rw [hsz]; exact Nat.lt_succ_self _
    · rcases List.mem_cons.mp hd with rfl | hd
      · exact Nat.lt_succ_of_lt (Nat.lt_succ_self _)
      · cases hd
  · have hold : ∀ d o, s.heap.get? d = some o → h'.get? d = some o := fun d o e => by
      refine hk d o (fun hm => ?_) (Heap.get?_push_of_some _ (Heap.get?_push_of_some _ e))
      rcases List.mem_cons.mp hm with e1 | hm
      · have := Heap.lt_size e; rw [e1, hsz] at this; exact Nat.lt_irrefl _ (Nat.lt_of_succ_lt this)
      · cases hm
    obtain ⟨t', rfl⟩ := intItems_at hP
    obtain ⟨h1, h2⟩ := argBest_lt (numAt #[(a, t), (b, u), (c, x), (d, y)]) ((intItems #[(a, t), (b, u), (c, x), (d, y)]).size - 1)
    have e3 : (intItems #[(a, t), (b, u), (c, x), (d, y)]).size - 1 = 3 := by simp [intItems]
    rw [e3] at h1 h2 ⊢
    have at_ : ∀ j, j ≤ 3 → numAt #[(a, t), (b, u), (c, x), (d, y)] j ∈ [a, b, c, d] := fun j hj => by
      match j, hj with
      | 0, _ => simp [numAt]
      | 1, _ => simp [numAt]
      | 2, _ => simp [numAt]
      | 3, _ => simp [numAt]
    refine h h' tk _ _ hold (at_ _ h1) fun z hz => ?_
    simp only [List.mem_cons, List.not_mem_nil, or_false] at hz
    rcases hz with rfl | rfl | rfl | rfl
    · exact h2 0 (by omega)
    · exact h2 1 (by omega)
    · exact h2 2 (by omega)
    · exact h2 3 (by omega)
end
def rMin4 : List V → Hp → VK → Prop := fun xs H Q => ∃ a b c d, xs = [.int a, .int b, .int c, .int d] ∧ ∀ m, m ∈ [a, b, c, d] → (∀ z ∈ [a, b, c, d], m ≤ z) → Q (.int m) H
theorem vals4 {x y z t : V} {us : List Value} (r : Vals [x, y, z, t] us) : ∃ a b c d, us = [a, b, c, d] ∧ RelV x a ∧ RelV y b ∧ RelV z c ∧ RelV t d := by
  cases r with
  | cons r1 r =>
    cases r with
    | cons r2 r =>
      cases r with
      | cons r3 r =>
        cases r with
        | cons r4 r =>
          cases r
          exact ⟨_, _, _, _, rfl, r1, r2, r3, r4⟩
theorem call_min4 {X : Cx} (hc : X.calm = true) : CallR X (.builtin "min") rMin4 := by
  intro pins s σ H xs us Q I r h
  obtain ⟨a, b, c, d, rfl, q⟩ := h
  obtain ⟨u1, u2, u3, u4, rfl, ⟨t1, rfl⟩, ⟨t2, rfl⟩, ⟨t3, rfl⟩, ⟨t4, rfl⟩⟩ := vals4 r
  exact min_four_ints (I.ok.hd hc) fun h' tk m t' k h1 h2 => ⟨V.int m, H, I.kept k, ⟨_, rfl⟩, q m h1 h2⟩
section
variable {K : PySem.W.Frag} {ρ : Rho} {te ta tb tc td : TE} {ds : List PyData} {i j k l : Int} {ns : List Int}
theorem pu_max (h : PuE K te ρ (.list (ns.map PyData.int))) (h1 : i ∈ ns) (h2 : ∀ y ∈ ns, y ≤ i) : PuE K (tCB (rMax K) (tCons te tNil)) ρ (.int i) := fun M σ H hid en Q q =>
  h M σ H hid en _ fun v H1 e1 hv => by
    obtain ⟨a, vs, rfl, hs, ha⟩ := dp_lstI hv
    obtain rfl := dpAll_nums ha
    refine ⟨a, ns, rfl, vis_sub.seq hs, List.length_pos_of_mem h1, fun m m1 m2 => ?_⟩
    have e : m = i := Int.le_antisymm (h2 m m1) (m2 i h1)
    subst e
    exact q _ H1 e1 (.int _)
theorem pu_min2 (h1 : PuE K ta ρ (.int i)) (h2 : PuE K tb ρ (.int j)) : PuE K (tCB (fun xs H Q => ∃ i j, xs = [V.int i, .int j] ∧ Q (.int (if j < i then j else i)) H) (tCons ta (tCons tb tNil))) ρ (.int (if j < i then j else i)) := fun M σ H hid en Q q =>
  h1 M σ H hid en _ fun v H1 e1 hv => h2 M σ H1 (hid.same e1) (en.same (vis_same e1)) _ fun u H2 e2 hu => by
    obtain rfl := dp_intI hv
    obtain rfl := dp_intI hu
    exact ⟨i, j, rfl, q _ H2 (e1.trans e2) (.int _)⟩
theorem pu_min4 {m : Int} (h1 : PuE K ta ρ (.int i)) (h2 : PuE K tb ρ (.int j)) (h3 : PuE K tc ρ (.int k)) (h4 : PuE K td ρ (.int l)) (hm : m ∈ [i, j, k, l]) (hl : ∀ z ∈ [i, j, k, l], m ≤ z) : PuE K (tCB rMin4 (tCons ta (tCons tb (tCons tc (tCons td tNil))))) ρ (.int m) := fun M σ H hid en Q q =>
  h1 M σ H hid en _ fun v1 H1 e1 hv1 => h2 M σ H1 (hid.same e1) (en.same (vis_same e1)) _ fun v2 H2 e2 hv2 => h3 M σ H2 (hid.same (e1.trans e2)) (en.same (vis_same (e1.trans e2))) _ fun v3 H3 e3 hv3 => h4 M σ H3 (hid.same ((e1.trans e2).trans e3)) (en.same (vis_same ((e1.trans e2).trans e3))) _ fun v4 H4 e4 hv4 => by
    obtain rfl := dp_intI hv1
    obtain rfl := dp_intI hv2
    obtain rfl := dp_intI hv3
    obtain rfl := dp_intI hv4
    refine ⟨i, j, k, l, rfl, fun z z1 z2 => ?_⟩
    have e : z = m := Int.le_antisymm (z2 m hm) (hl z z1)
    subst e
    exact q _ H4 (((e1.trans e2).trans e3).trans e4) (.int _)
theorem pui_enum (h : PuE K te ρ (.list ds)) : PuI K (iEnum K (tCons te tNil)) ρ (ds.zipIdx.map fun p => PyData.tuple [.int (p.2 : Int), p.1]) := fun M σ H hid en R r => h M σ H hid en _ fun v H1 e1 hv => by
  obtain ⟨a, xs, rfl, hs, ha⟩ := dp_lstI hv
  have hl := dpAll_len ha
  refine ⟨a, xs, rfl, vis_sub.seq hs, r _ H1 e1 ⟨fun i H' s hi => ?_, fun i H' s hi => ⟨xs, s.seq hs, by rw [List.length_map, List.length_zipIdx] at hi; omega⟩, fun i H' x H'' d s hd y => ?_⟩⟩
  · rw [List.length_map, List.length_zipIdx] at hi
    have : i < xs.length := by omega
    exact ⟨xs, xs[i], s.seq hs, List.getElem?_eq_getElem this⟩
  · obtain ⟨T, x, rfl, nT, rfl, y⟩ := y
    have hx := y xs (s.seq hs)
    obtain ⟨d', hd', hv⟩ := dpAll_get ha hx
    rw [List.getElem?_map, List.getElem?_zipIdx, hd'] at hd
    cases hd
    refine ⟨same_new nT _, fun N hN s2 => ?_⟩
    have sv := vis_same (M := N) (same_new nT (HO.tup [.int (i : Nat), x]))
    rw [Nat.zero_add]
    exact .tup (SqT.of (vis_new hN nT)) (.cons (.int _) (.cons (dp_same (s2.trans sv) _ _ hv) .nil))
end
end Lm
set_option Elab.async false
set_option linter.all false
set_option maxRecDepth 100000
set_option maxHeartbeats 400000
namespace Lm
open PySem PySem.Spec PyProof.Rows L2
/-! ### depth -/
def gDeep (n : Nat) (ds : List PyData) (d : PyData) : Prop := ∃ f : Fm, ds = [f.toD] ∧ f.dep < n ∧ d = .int (f.dep : Int)
theorem tail_max (g : Fm) : (((g.dep - 1 : Nat) : Int)) ∈ (((tailD g).filter isTu).map fun d => (d.depth : Int)) ++ [0] ∧ ∀ y ∈ (((tailD g).filter isTu).map fun d => (d.depth : Int)) ++ [0], y ≤ (((g.dep - 1 : Nat) : Int)) := by
  cases g with
  | sg i =>
    show (((1 - 1 : Nat) : Int)) ∈ [] ++ [(0 : Int)] ∧ ∀ y ∈ [] ++ [(0 : Int)], y ≤ (((1 - 1 : Nat) : Int))
    simp
  | no g =>
    have e : (tailD (.no g)).filter isTu = [g.toD] := by
      show [g.toD].filter isTu = _
      rw [List.filter_cons_of_pos (isTu_fm g)]
      rfl
    rw [e]
    show (((g.dep + 1 - 1 : Nat) : Int)) ∈ [(g.toD.depth : Int)] ++ [0] ∧ ∀ y ∈ [(g.toD.depth : Int)] ++ [0], y ≤ (((g.dep + 1 - 1 : Nat) : Int))
    rw [Fm.toD_depth, Nat.add_sub_cancel]
    refine ⟨List.mem_cons_self, fun y hy => ?_⟩
    simp only [List.mem_append, List.mem_singleton] at hy
    omega
  | bi b g h =>
    have e : (tailD (.bi b g h)).filter isTu = [g.toD, h.toD] := by
      show [g.toD, h.toD].filter isTu = _
      rw [List.filter_cons_of_pos (isTu_fm g), List.filter_cons_of_pos (isTu_fm h)]
      rfl
    rw [e]
    show (((max g.dep h.dep + 1 - 1 : Nat) : Int)) ∈ [(g.toD.depth : Int), (h.toD.depth : Int)] ++ [0] ∧ ∀ y ∈ [(g.toD.depth : Int), (h.toD.depth : Int)] ++ [0], y ≤ (((max g.dep h.dep + 1 - 1 : Nat) : Int))
    rw [Fm.toD_depth, Fm.toD_depth, Nat.add_sub_cancel]
    refine ⟨?_, fun y hy => ?_⟩
    · simp only [List.mem_append, List.mem_singleton, List.mem_cons, List.not_mem_nil, or_false]
      omega
    · simp only [List.mem_append, List.mem_singleton, List.mem_cons, List.not_mem_nil, or_false] at hy
      omega
theorem dep_pos (g : Fm) : 1 ≤ g.dep := by cases g <;> simp [Fm.dep]
theorem atI_map {α β : Type} {f : α → β} {L : List α} {i : Int} {x : α} (h : atI L i = some x) : atI (L.map f) i = some (f x) := by
  unfold atI at h ⊢
  rw [List.length_map]
  cases e : ixN L.length i with
  | none => rw [e] at h; cases h
  | some j =>
    rw [e] at h
    have h : L[j]? = some x := h
    show (L.map f)[j]? = some (f x)
    rw [List.getElem?_map, h]
    rfl
theorem one1 (f : Fm) : [f].length ≤ 1000 := by show 1 ≤ 1000; decide
section
variable {K : PySem.W.Frag} {ρ : Rho} {te tk ta tb : TE} {L R : List Fm} {m : Int} {f g : Fm} {c : Cl}
/-- L[m % len(L)] -/
theorem pu_get {tl : TE} (h : PuE K te ρ (lsD L)) (h2 : PuE K tl ρ (lsD L)) (k : PuE K tk ρ (.int m)) (n : L ≠ []) : PuE K (tOp (rIxL K) te (tOp (rI (fun _ j => 0 < j) fun i j => .int (i % j)) tk (tCB (rLn K) (tCons tl tNil)))) ρ (getF L (m % (L.length : Int))).toD := by
  have hl : (0 : Int) < (L.length : Int) := by
    have := List.length_pos_iff.mpr n
    omega
  refine pu_ixL h ((pu_mod k (pu_len_l h2) (by rw [List.length_map]; exact hl)).cast (by rw [List.length_map])) (atI_map (getF_mod n m).1)
theorem pu_div (j : Int) (h : PuE K te ρ (.int m)) (hc : CDiv m j) : PuE K (tOp (rI CDiv fun i j => .int (i / j)) te (tC (.int j))) ρ (.int (m / j)) := pu_fdiv h (pu_int j) hc
theorem pu_fno (h : PuE K te ρ f.toD) : PuE K (tTup (tCons (tC (.str ("not" : Str))) (tCons te tNil))) ρ (Fm.no f).toD := pu_tup (pu_cons (pu_str _) (pu_cons h pu_nil)) (by simp)
theorem pu_fbi (b : Bw) (h : PuE K te ρ f.toD) (k : PuE K tk ρ g.toD) : PuE K (tTup (tCons (tC (.str b.txt)) (tCons te (tCons tk tNil)))) ρ (Fm.bi b f g).toD := pu_tup (pu_cons (pu_str _) (pu_cons h (pu_cons k pu_nil))) (by simp)
theorem pu_wo (h : PuE K te ρ (lsD L)) (k : PuE K tk ρ f.toD) (s : Sh L) (l : L.length ≤ 2000) (d : f.dep ≤ 60) : PuE K (tCall (spPu K 2 gWithout) [] E0 (tCons te (tCons tk tNil))) ρ (lsD (without L f)) := pu_call (pu_cons h (pu_cons k pu_nil)) rfl ⟨L, f, rfl, s, d, l, rfl⟩
theorem pu_line {w : Wd} (h : PuE K te ρ c.toD) (k : PuE K tk ρ f.toD) : PuE K (tTup (tCons te (tCons (tTup (tCons (tC (.str w.txt)) (tCons tk tNil))) tNil))) ρ (.tuple [c.toD, (Ru.fm w f).toD]) :=
  pu_tup (pu_cons h (pu_cons (pu_tup (pu_cons (pu_str _) (pu_cons k pu_nil)) (by simp)) pu_nil)) (by simp)
/-- list(x), of a list -/
theorem pu_copy {ds : List PyData} (h : PuE K te ρ (.list ds)) : PuE K (tCB (fun xs H Q => ∃ p ys, xs = [V.ref p] ∧ (SqL K H p ys ∨ SqT K H p ys) ∧ ∀ l, H l = none → Q (.ref l) (upd H l (.lst ys))) (tCons te tNil)) ρ (.list ds) := fun M σ H hid en Q q => h M σ H hid en _ fun v H1 e1 hv => by
  obtain ⟨a, vs, rfl, hs, ha⟩ := dp_lstI hv
  exact ⟨a, vs, rfl, .inl (vis_sub.seq hs), fun p np => q (.ref p) _ (e1.trans (same_new np _)) (.lst (SqL.of (vis_new (hid.same e1) np)) (dpAll_same (vis_same (same_new np _)) _ _ ha))⟩
end
section
variable {P : Program} {w : World} {K : PySem.W.Frag} {mg : Str → Option Value} {base : Heap} {f : Addr} {fd : FuncData}
theorem scLDeep : FnScope ["_law_f", "_law_inner"] ["_law_f"] (defScope sLDeep) := ⟨rfl, rfl, rfl, by decide +kernel, rfl, by decide +kernel, by decide +kernel⟩
theorem ok_ldeep {n : Nat} (D : Df K mg "_law_deep" sLDeep ["_law_f"] f fd) (B : Blt mg) (b_max : mg "max" = none) (h_law_deep : Has P w K mg base (n + 1) "_law_deep" ["_law_f"] (spPu K 1 (gDeep n))) : FnOk P w K mg base CX0 (n + 2) f fd ["_law_f"] (spPu K 1 (gDeep (n + 1))) := by
  refine ok_pu D scLDeep fun cdv A outer s H E hr => ?_
  refine ⟨_, (pss_one (ps_ret (pe_op op_add pe_int (pe_callB (cr_max rfl) (by rfl) b_max bt_max (pa_cons (pe_op (r := rCatL K) op_catL (pe_lc (own := [("_law_inner", 1)]) (g := gName 1) rfl scLDeep.nd (pi_tup (pe_slice sl_tup (pv 0) (po_some pe_int) po_none)) (blkOk_by (N := ["_law_f", "_law_inner"]) (sc := defScope sLDeep) (by decide +kernel)) (fun _ _ _ _ _ => (pg_name (i := 1) scLDeep.nd rfl (by first | exact Or.inl rfl | exact Or.inr rfl))) (fun _ _ _ _ _ => (pts_one (pt_val (pe_callB (r := rIsi K) call_isi (by rfl) B.isinstance bt_isinstance (pa_cons (pv 1) (pa_cons (pe_bltn (v := .ty "tuple") (by rfl) B.tuple bt_tuple rfl) pa_nil)))))) (fun _ _ _ _ _ => (pe_callH h_law_deep (hr.mono (by omega)) (by rfl) (pa_cons (pv 1) pa_nil)))) (pe_lst (pa_cons pe_int pa_nil))) pa_nil))))), ?_⟩
  rintro ds d hl ⟨g, rfl, hg, rfl⟩
  left
  obtain ⟨m1, m2⟩ := tail_max g
  have gp := dep_pos g
  refine pus_ret ((pu_add (pu_int 1) (pu_max (ns := ((tailD g).filter isTu).map (fun d => (d.depth : Int)) ++ [0]) ?_ m1 m2)).cast (by congr 1; omega))
  rw [List.map_append, List.map_map]
  refine pu_cat (pu_fil (xs := tailD g) (td := id) (pui_tup ?_) (Nat.le_trans (tail_len g) (by decide)) isTu _ fun x hx => ⟨?_, fun t => ?_⟩) (pu_lst (pu_cons (pu_int 0) pu_nil) (by simp)) ?_
  · rw [List.map_id]
    exact pu_tail (d0 := .str g.wd) ((pu_var rfl).cast (toD_tail g))
  · exact pu_tB (pu_isTup (pu_var rfl))
  · obtain ⟨k, rfl, hk⟩ := tail_fm hx t
    have := kid_dep hk
    exact pu_call (pu_cons (pu_var rfl) pu_nil) rfl ⟨k, rfl, by omega, by show PyData.int (k.toD.depth : Int) = _; rw [Fm.toD_depth]⟩
  · have h1 := List.length_filter_le isTu (tailD g)
    have h2 := tail_len g
    rw [List.length_map]
    show _ + 1 ≤ _
    omega
theorem all_ldeep (D : Df K mg "_law_deep" sLDeep ["_law_f"] f fd) (B : Blt mg) (b_max : mg "max" = none) : ∀ n : Nat, Has P w K mg base (n + 1) "_law_deep" ["_law_f"] (spPu K 1 (gDeep n))
  | 0 => by
    have no : ∀ vs H Q E, ¬ spPu K 1 (gDeep 0) vs H Q E := fun vs H Q E h => by
      obtain ⟨M, ds, d, _, _, _, ⟨_, _, hm, _⟩, _⟩ := h
      omega
    exact D.has ⟨fun vs H Q E h => absurd h (no vs H Q E), fun A outer s H args us vs Q E _ _ _ _ h => absurd h (no vs H Q E)⟩
  | n + 1 => D.has (ok_ldeep D B b_max (all_ldeep D B b_max n))
/-! ### _law_one, _law_two -/
def mkD (x : Cl × Wd × Fm) : PyData := .tuple [x.1.toD, (Ru.fm x.2.1 x.2.2).toD]
def gOne (ds : List PyData) (d : PyData) : Prop := ∃ (L R : List Fm) (kind more : Int), ds = [lsD L, lsD R, .int kind, .int more] ∧ Gd L ∧ Gd R ∧ L ≠ [] ∧ R ≠ [] ∧ L.length ≤ 24 ∧ R.length ≤ 24 ∧ d = mkD (oneN L R kind more)
def gTwo (ds : List PyData) (d : PyData) : Prop := ∃ (p q : Cl) (kind more : Int), ds = [p.toD, q.toD, .int kind, .int more] ∧ GdC p ∧ GdC q ∧ p.1 ≠ [] ∧ p.2 ≠ [] ∧ q.1 ≠ [] ∧ q.2 ≠ [] ∧ p.1.length ≤ 24 ∧ p.2.length ≤ 24 ∧ q.1.length ≤ 24 ∧ q.2.length ≤ 24 ∧ d = mkD (twoN p q kind more)
theorem cdiv2 (i : Int) : CDiv i 2 := ⟨by decide, by decide⟩
theorem cdiv3 (i : Int) : CDiv i 3 := ⟨by decide, by decide⟩
theorem cdiv5 (i : Int) : CDiv i 5 := ⟨by decide, by decide⟩
theorem cdiv7 (i : Int) : CDiv i 7 := ⟨by decide, by decide⟩
theorem cdiv10 (i : Int) : CDiv i 10 := ⟨by decide, by decide⟩
theorem scOne : FnScope ["_law_left", "_law_right", "_law_kind", "_law_more", "_law_a", "_law_b", "_law_f"] ["_law_left", "_law_right", "_law_kind", "_law_more"] (defScope sOne) := ⟨rfl, rfl, rfl, by decide +kernel, rfl, by decide +kernel, by decide +kernel⟩
theorem ok_one (D : Df K mg "_law_one" sOne ["_law_left", "_law_right", "_law_kind", "_law_more"] f fd) (B : Blt mg) (h_law_with : Has P w K mg base 1 "_law_with" ["_law_row", "_law_more"] (spPu K 2 gWith)) (h_law_without : Has P w K mg base 1 "_law_without" ["_law_row", "_law_f"] (spPu K 2 gWithout)) :
    FnOk P w K mg base CX0 2 f fd ["_law_left", "_law_right", "_law_kind", "_law_more"] (spPu K 4 gOne) := by
  refine ok_pu D scOne fun cdv A outer s H E hr => ?_
  refine ⟨_, (pss_cons (ps_set (i := 4) scOne.nd rfl (by first | exact Or.inl rfl | exact Or.inr rfl) (pe_ix (r := rIxL K) ix_list (pv 0) (pe_op op_mod (pv 3) (pe_callB (r := rLn K) call_len_seq (by rfl) B.len PySem.boot_len (pa_cons (pv 0) pa_nil))) (fun _ _ => rfl)))
    (pss_cons (ps_set (i := 5) scOne.nd rfl (by first | exact Or.inl rfl | exact Or.inr rfl) (pe_ix (r := rIxL K) ix_list (pv 1) (pe_op op_mod (pe_op op_fdiv (pv 3) pe_int) (pe_callB (r := rLn K) call_len_seq (by rfl) B.len PySem.boot_len (pa_cons (pv 1) pa_nil))) (fun _ _ => rfl)))
    (pss_cons (ps_if (pt_cmpR op_eq (pv 2) pe_int (nomark _)) (pss_one (ps_ret (pe_tup (pa_cons (pe_tup (pa_cons (pe_callH h_law_without (hr.mono (by omega)) (by rfl) (pa_cons (pv 0) (pa_cons (pv 4) pa_nil))) (pa_cons (pe_callH h_law_with (hr.mono (by omega)) (by rfl) (pa_cons (pv 1) (pa_cons (pe_lst (pa_cons (pe_tup (pa_cons pe_str (pa_cons (pv 4) pa_nil))) pa_nil)) pa_nil))) pa_nil))) (pa_cons (pe_tup (pa_cons pe_str (pa_cons (pe_tup (pa_cons pe_str (pa_cons (pv 4) pa_nil))) pa_nil))) pa_nil))))) pss_nil)
    (pss_cons (ps_if (pt_cmpR op_eq (pv 2) pe_int (nomark _)) (pss_one (ps_ret (pe_tup (pa_cons (pe_tup (pa_cons (pe_callH h_law_with (hr.mono (by omega)) (by rfl) (pa_cons (pv 0) (pa_cons (pe_lst (pa_cons (pe_tup (pa_cons pe_str (pa_cons (pv 5) pa_nil))) pa_nil)) pa_nil))) (pa_cons (pe_callH h_law_without (hr.mono (by omega)) (by rfl) (pa_cons (pv 1) (pa_cons (pv 5) pa_nil))) pa_nil))) (pa_cons (pe_tup (pa_cons pe_str (pa_cons (pe_tup (pa_cons pe_str (pa_cons (pv 5) pa_nil))) pa_nil))) pa_nil))))) pss_nil)
    (pss_cons (ps_if (pt_cmpR op_eq (pv 2) pe_int (nomark _)) (pss_cons (ps_set (i := 6) scOne.nd rfl (by first | exact Or.inl rfl | exact Or.inr rfl) (pe_tup (pa_cons pe_str (pa_cons (pv 5) (pa_cons (pe_ix (r := rIxL K) ix_list (pv 1) (pe_op op_mod (pe_op op_fdiv (pv 3) pe_int) (pe_callB (r := rLn K) call_len_seq (by rfl) B.len PySem.boot_len (pa_cons (pv 1) pa_nil))) (fun _ _ => rfl)) pa_nil)))))
    (pss_one (ps_ret (pe_tup (pa_cons (pe_tup (pa_cons (pv 0) (pa_cons (pe_callH h_law_with (hr.mono (by omega)) (by rfl) (pa_cons (pe_callH h_law_without (hr.mono (by omega)) (by rfl) (pa_cons (pe_callH h_law_without (hr.mono (by omega)) (by rfl) (pa_cons (pv 1) (pa_cons (pv 5) pa_nil))) (pa_cons (pe_ix (r := rIxT K) ix_tup (pv 6) pe_int (fun _ _ => rfl)) pa_nil))) (pa_cons (pe_lst (pa_cons (pv 6) pa_nil)) pa_nil))) pa_nil))) (pa_cons (pe_tup (pa_cons pe_str (pa_cons (pv 6) pa_nil))) pa_nil)))))) pss_nil)
    (pss_cons (ps_if (pt_cmpR op_eq (pv 2) pe_int (nomark _)) (pss_cons (ps_set (i := 6) scOne.nd rfl (by first | exact Or.inl rfl | exact Or.inr rfl) (pe_tup (pa_cons pe_str (pa_cons (pv 4) (pa_cons (pe_ix (r := rIxL K) ix_list (pv 0) (pe_op op_mod (pe_op op_fdiv (pv 3) pe_int) (pe_callB (r := rLn K) call_len_seq (by rfl) B.len PySem.boot_len (pa_cons (pv 0) pa_nil))) (fun _ _ => rfl)) pa_nil)))))
    (pss_one (ps_ret (pe_tup (pa_cons (pe_tup (pa_cons (pe_callH h_law_with (hr.mono (by omega)) (by rfl) (pa_cons (pe_callH h_law_without (hr.mono (by omega)) (by rfl) (pa_cons (pe_callH h_law_without (hr.mono (by omega)) (by rfl) (pa_cons (pv 0) (pa_cons (pv 4) pa_nil))) (pa_cons (pe_ix (r := rIxT K) ix_tup (pv 6) pe_int (fun _ _ => rfl)) pa_nil))) (pa_cons (pe_lst (pa_cons (pv 6) pa_nil)) pa_nil))) (pa_cons (pv 1) pa_nil))) (pa_cons (pe_tup (pa_cons pe_str (pa_cons (pv 6) pa_nil))) pa_nil)))))) pss_nil)
    (pss_cons (ps_set (i := 6) scOne.nd rfl (by first | exact Or.inl rfl | exact Or.inr rfl) (pe_tup (pa_cons pe_str (pa_cons (pv 4) (pa_cons (pv 5) pa_nil)))))
    (pss_one (ps_ret (pe_tup (pa_cons (pe_tup (pa_cons (pe_callH h_law_without (hr.mono (by omega)) (by rfl) (pa_cons (pv 0) (pa_cons (pv 4) pa_nil))) (pa_cons (pe_callH h_law_with (hr.mono (by omega)) (by rfl) (pa_cons (pe_callH h_law_without (hr.mono (by omega)) (by rfl) (pa_cons (pv 1) (pa_cons (pv 5) pa_nil))) (pa_cons (pe_lst (pa_cons (pv 6) pa_nil)) pa_nil))) pa_nil))) (pa_cons (pe_tup (pa_cons pe_str (pa_cons (pv 6) pa_nil))) pa_nil)))))))))))), ?_⟩
  rintro ds d hl ⟨L, R, kind, more, rfl, gL, gR, nL, nR, lL, lR, rfl⟩
  left
  have ga := gd_getF gL nL more
  have gb := gd_getF gR nR (more / 2)
  have ga3 := gd_getF gL nL (more / 3)
  have gb3 := gd_getF gR nR (more / 3)
  have w1 := fun x => without_le L x
  have w2 := fun x => without_le R x
  unfold oneN
  dsimp only
  refine pus_set (pu_get (pu_var rfl) (pu_var rfl) (pu_var rfl) nL) (pus_set (pu_get (pu_var rfl) (pu_var rfl) (pu_div 2 (pu_var rfl) (cdiv2 _)) nR) ?_)
  have kd : ∀ (z : Int) {ρ : Rho}, ρ[2]? = some (some (.int kind)) → PuT K (tTest (tOp rEq (tVar 2) (tC (.int z)))) ρ (decide (kind = z)) := fun z ρ h => pu_tTest (pu_eqI (pu_var h) (pu_int z))
  by_cases k2 : kind = 2
  · rw [if_pos k2]
    refine pus_take ((kd 2 rfl).cast (decide_eq_true k2)) (pus_ret (pu_line (pu_c (pu_wo (pu_var rfl) (pu_var rfl) gL.sh (by omega) (by omega)) (pu_with (pu_var rfl) (pu_l1 (pu_fno (pu_var rfl))) gR.sh (sh_one ?_) (by omega) (one1 _))) (pu_fno (pu_var rfl))))
    exact Nat.le_trans (Nat.succ_le_succ ga.2) (by decide)
  rw [if_neg k2]
  refine pus_skip ((kd 2 rfl).cast (decide_eq_false k2)) ?_
  by_cases k3 : kind = 3
  · rw [if_pos k3]
    refine pus_take ((kd 3 rfl).cast (decide_eq_true k3)) (pus_ret (pu_line (pu_c (pu_with (pu_var rfl) (pu_l1 (pu_fno (pu_var rfl))) gL.sh (sh_one ?_) (by omega) (one1 _)) (pu_wo (pu_var rfl) (pu_var rfl) gR.sh (by omega) (by omega))) (pu_fno (pu_var rfl))))
    exact Nat.le_trans (Nat.succ_le_succ gb.2) (by decide)
  rw [if_neg k3]
  refine pus_skip ((kd 3 rfl).cast (decide_eq_false k3)) ?_
  by_cases k4 : kind = 4
  · rw [if_pos k4]
    have dd : (Fm.bi .o (getF R (more / 2 % (R.length : Int))) (getF R (more / 3 % (R.length : Int)))).dep ≤ 60 := by
      show max _ _ + 1 ≤ 60
      omega
    refine pus_take ((kd 4 rfl).cast (decide_eq_true k4)) (pus_set (d := (Fm.bi .o (getF R (more / 2 % (R.length : Int))) (getF R (more / 3 % (R.length : Int)))).toD) (pu_fbi .o (pu_var rfl) (pu_get (pu_var rfl) (pu_var rfl) (pu_div 3 (pu_var rfl) (cdiv3 _)) nR)) (pus_ret (pu_line (pu_c (pu_var rfl) (pu_with (pu_wo (pu_wo (pu_var rfl) (pu_var rfl) gR.sh (by omega) (by omega)) (pu_bi2 (w := .o) rfl) (sh_without gR.sh _) (Nat.le_trans (w2 _) (by omega)) (by omega)) (pu_l1 (pu_var rfl)) (sh_without (sh_without gR.sh _) _) (sh_one dd) (Nat.le_trans (without_le _ _) (Nat.le_trans (w2 _) (by omega))) (one1 _))) (pu_var rfl))))
  rw [if_neg k4]
  refine pus_skip ((kd 4 rfl).cast (decide_eq_false k4)) ?_
  by_cases k5 : kind = 5
  · rw [if_pos k5]
    have dd : (Fm.bi .an (getF L (more % (L.length : Int))) (getF L (more / 3 % (L.length : Int)))).dep ≤ 60 := by
      show max _ _ + 1 ≤ 60
      omega
    refine pus_take ((kd 5 rfl).cast (decide_eq_true k5)) (pus_set (d := (Fm.bi .an (getF L (more % (L.length : Int))) (getF L (more / 3 % (L.length : Int)))).toD) (pu_fbi .an (pu_var rfl) (pu_get (pu_var rfl) (pu_var rfl) (pu_div 3 (pu_var rfl) (cdiv3 _)) nL)) (pus_ret (pu_line (pu_c (pu_with (pu_wo (pu_wo (pu_var rfl) (pu_var rfl) gL.sh (by omega) (by omega)) (pu_bi2 (w := .an) rfl) (sh_without gL.sh _) (Nat.le_trans (w1 _) (by omega)) (by omega)) (pu_l1 (pu_var rfl)) (sh_without (sh_without gL.sh _) _) (sh_one dd) (Nat.le_trans (without_le _ _) (Nat.le_trans (w1 _) (by omega))) (one1 _)) (pu_var rfl)) (pu_var rfl))))
  rw [if_neg k5]
  refine pus_skip ((kd 5 rfl).cast (decide_eq_false k5)) ?_
  have dd : (Fm.bi .th (getF L (more % (L.length : Int))) (getF R (more / 2 % (R.length : Int)))).dep ≤ 60 := by
    show max _ _ + 1 ≤ 60
    omega
  exact pus_set (d := (Fm.bi .th (getF L (more % (L.length : Int))) (getF R (more / 2 % (R.length : Int)))).toD) (pu_fbi .th (pu_var rfl) (pu_var rfl)) (pus_ret (pu_line (pu_c (pu_wo (pu_var rfl) (pu_var rfl) gL.sh (by omega) (by omega)) (pu_with (pu_wo (pu_var rfl) (pu_var rfl) gR.sh (by omega) (by omega)) (pu_l1 (pu_var rfl)) (sh_without gR.sh _) (sh_one dd) (Nat.le_trans (w2 _) (by omega)) (one1 _))) (pu_var rfl)))
theorem scTwo : FnScope ["_law_one_here", "_law_other", "_law_kind", "_law_more", "_law_a", "_law_b", "_law_c", "_law_d", "_law_both", "_law_f", "_law_left"] ["_law_one_here", "_law_other", "_law_kind", "_law_more"] (defScope sTwo) := ⟨rfl, rfl, rfl, by decide +kernel, rfl, by decide +kernel, by decide +kernel⟩
theorem ok_two (D : Df K mg "_law_two" sTwo ["_law_one_here", "_law_other", "_law_kind", "_law_more"] f fd) (B : Blt mg) (h_law_with : Has P w K mg base 1 "_law_with" ["_law_row", "_law_more"] (spPu K 2 gWith)) (h_law_without : Has P w K mg base 1 "_law_without" ["_law_row", "_law_f"] (spPu K 2 gWithout)) :
    FnOk P w K mg base CX0 2 f fd ["_law_one_here", "_law_other", "_law_kind", "_law_more"] (spPu K 4 gTwo) := by
  refine ok_pu D scTwo fun cdv A outer s H E hr => ?_
  refine ⟨_, (pss_cons (ps_set (i := 4) scTwo.nd rfl (by first | exact Or.inl rfl | exact Or.inr rfl) (pe_ix (r := rIxL K) ix_list (pe_ix (r := rIxT K) ix_tup (pv 0) pe_int (fun _ _ => rfl)) (pe_op op_mod (pv 3) (pe_callB (r := rLn K) call_len_seq (by rfl) B.len PySem.boot_len (pa_cons (pe_ix (r := rIxT K) ix_tup (pv 0) pe_int (fun _ _ => rfl)) pa_nil))) (fun _ _ => rfl)))
    (pss_cons (ps_set (i := 5) scTwo.nd rfl (by first | exact Or.inl rfl | exact Or.inr rfl) (pe_ix (r := rIxL K) ix_list (pe_ix (r := rIxT K) ix_tup (pv 0) pe_int (fun _ _ => rfl)) (pe_op op_mod (pe_op op_fdiv (pv 3) pe_int) (pe_callB (r := rLn K) call_len_seq (by rfl) B.len PySem.boot_len (pa_cons (pe_ix (r := rIxT K) ix_tup (pv 0) pe_int (fun _ _ => rfl)) pa_nil))) (fun _ _ => rfl)))
    (pss_cons (ps_set (i := 6) scTwo.nd rfl (by first | exact Or.inl rfl | exact Or.inr rfl) (pe_ix (r := rIxL K) ix_list (pe_ix (r := rIxT K) ix_tup (pv 1) pe_int (fun _ _ => rfl)) (pe_op op_mod (pe_op op_fdiv (pv 3) pe_int) (pe_callB (r := rLn K) call_len_seq (by rfl) B.len PySem.boot_len (pa_cons (pe_ix (r := rIxT K) ix_tup (pv 1) pe_int (fun _ _ => rfl)) pa_nil))) (fun _ _ => rfl)))
    (pss_cons (ps_set (i := 7) scTwo.nd rfl (by first | exact Or.inl rfl | exact Or.inr rfl) (pe_ix (r := rIxL K) ix_list (pe_ix (r := rIxT K) ix_tup (pv 1) pe_int (fun _ _ => rfl)) (pe_op op_mod (pe_op op_fdiv (pv 3) pe_int) (pe_callB (r := rLn K) call_len_seq (by rfl) B.len PySem.boot_len (pa_cons (pe_ix (r := rIxT K) ix_tup (pv 1) pe_int (fun _ _ => rfl)) pa_nil))) (fun _ _ => rfl)))
    (pss_cons (ps_set (i := 8) scTwo.nd rfl (by first | exact Or.inl rfl | exact Or.inr rfl) (pe_lst (pa_cons (pe_callH h_law_with (hr.mono (by omega)) (by rfl) (pa_cons (pe_ix (r := rIxT K) ix_tup (pv 0) pe_int (fun _ _ => rfl)) (pa_cons (pe_ix (r := rIxT K) ix_tup (pv 1) pe_int (fun _ _ => rfl)) pa_nil))) (pa_cons (pe_callH h_law_with (hr.mono (by omega)) (by rfl) (pa_cons (pe_ix (r := rIxT K) ix_tup (pv 0) pe_int (fun _ _ => rfl)) (pa_cons (pe_ix (r := rIxT K) ix_tup (pv 1) pe_int (fun _ _ => rfl)) pa_nil))) pa_nil))))
    (pss_cons (ps_if (pt_cmpR op_gt (pv 2) pe_int (nomark _)) (pss_one (ps_ret (pe_tup (pa_cons (pe_tup (pa_cons (pe_ix (r := rIxL K) ix_list (pv 8) pe_int (fun _ _ => rfl)) (pa_cons (pe_callH h_law_with (hr.mono (by omega)) (by rfl) (pa_cons (pe_callH h_law_without (hr.mono (by omega)) (by rfl) (pa_cons (pe_ix (r := rIxT K) ix_tup (pv 0) pe_int (fun _ _ => rfl)) (pa_cons (pv 5) pa_nil))) (pa_cons (pe_ix (r := rIxT K) ix_tup (pv 1) pe_int (fun _ _ => rfl)) pa_nil))) pa_nil))) (pa_cons (pe_tup (pa_cons pe_str (pa_cons (pv 5) pa_nil))) pa_nil))))) pss_nil)
    (pss_cons (ps_if (pt_cmpR op_eq (pe_op op_mod (pv 3) pe_int) pe_int (nomark _)) (pss_cons (ps_set (i := 9) scTwo.nd rfl (by first | exact Or.inl rfl | exact Or.inr rfl) (pe_tup (pa_cons pe_str (pa_cons (pv 5) (pa_cons (pv 7) pa_nil)))))
    (pss_one (ps_ret (pe_tup (pa_cons (pe_tup (pa_cons (pe_ix (r := rIxL K) ix_list (pv 8) pe_int (fun _ _ => rfl)) (pa_cons (pe_callH h_law_with (hr.mono (by omega)) (by rfl) (pa_cons (pe_callH h_law_without (hr.mono (by omega)) (by rfl) (pa_cons (pe_ix (r := rIxT K) ix_tup (pv 0) pe_int (fun _ _ => rfl)) (pa_cons (pv 5) pa_nil))) (pa_cons (pe_op (r := rCatL K) op_catL (pe_callH h_law_without (hr.mono (by omega)) (by rfl) (pa_cons (pe_ix (r := rIxT K) ix_tup (pv 1) pe_int (fun _ _ => rfl)) (pa_cons (pv 7) pa_nil))) (pe_lst (pa_cons (pv 9) pa_nil))) pa_nil))) pa_nil))) (pa_cons (pe_tup (pa_cons pe_str (pa_cons (pv 9) pa_nil))) pa_nil)))))) pss_nil)
    (pss_cons (ps_if (pt_cmpR op_eq (pe_op op_mod (pv 3) pe_int) pe_int (nomark _)) (pss_cons (ps_set (i := 9) scTwo.nd rfl (by first | exact Or.inl rfl | exact Or.inr rfl) (pe_tup (pa_cons pe_str (pa_cons (pv 4) (pa_cons (pv 6) pa_nil)))))
    (pss_one (ps_ret (pe_tup (pa_cons (pe_tup (pa_cons (pe_callH h_law_with (hr.mono (by omega)) (by rfl) (pa_cons (pe_callH h_law_without (hr.mono (by omega)) (by rfl) (pa_cons (pe_ix (r := rIxT K) ix_tup (pv 0) pe_int (fun _ _ => rfl)) (pa_cons (pv 4) pa_nil))) (pa_cons (pe_op (r := rCatL K) op_catL (pe_callH h_law_without (hr.mono (by omega)) (by rfl) (pa_cons (pe_ix (r := rIxT K) ix_tup (pv 1) pe_int (fun _ _ => rfl)) (pa_cons (pv 6) pa_nil))) (pe_lst (pa_cons (pv 9) pa_nil))) pa_nil))) (pa_cons (pe_ix (r := rIxL K) ix_list (pv 8) pe_int (fun _ _ => rfl)) pa_nil))) (pa_cons (pe_tup (pa_cons pe_str (pa_cons (pv 9) pa_nil))) pa_nil)))))) pss_nil)
    (pss_cons (ps_set (i := 9) scTwo.nd rfl (by first | exact Or.inl rfl | exact Or.inr rfl) (pe_tup (pa_cons pe_str (pa_cons (pv 5) (pa_cons (pv 6) pa_nil)))))
    (pss_cons (ps_set (i := 10) scTwo.nd rfl (by first | exact Or.inl rfl | exact Or.inr rfl) (pe_callH h_law_with (hr.mono (by omega)) (by rfl) (pa_cons (pe_ix (r := rIxT K) ix_tup (pv 0) pe_int (fun _ _ => rfl)) (pa_cons (pe_op (r := rCatL K) op_catL (pe_callH h_law_without (hr.mono (by omega)) (by rfl) (pa_cons (pe_ix (r := rIxT K) ix_tup (pv 1) pe_int (fun _ _ => rfl)) (pa_cons (pv 6) pa_nil))) (pe_lst (pa_cons (pv 9) pa_nil))) pa_nil))))
    (pss_one (ps_ret (pe_tup (pa_cons (pe_tup (pa_cons (pv 10) (pa_cons (pe_callH h_law_with (hr.mono (by omega)) (by rfl) (pa_cons (pe_callH h_law_without (hr.mono (by omega)) (by rfl) (pa_cons (pe_ix (r := rIxT K) ix_tup (pv 0) pe_int (fun _ _ => rfl)) (pa_cons (pv 5) pa_nil))) (pa_cons (pe_ix (r := rIxT K) ix_tup (pv 1) pe_int (fun _ _ => rfl)) pa_nil))) pa_nil))) (pa_cons (pe_tup (pa_cons pe_str (pa_cons (pv 9) pa_nil))) pa_nil))))))))))))))), ?_⟩
  rintro ds dd hl ⟨p, q, kind, more, rfl, gp, gq, n1, n2, n3, n4, l1, l2, l3, l4, rfl⟩
  left
  have ga := gd_getF gp.1 n1 more
  have gb := gd_getF gp.2 n2 (more / 2)
  have gc := gd_getF gq.1 n3 (more / 3)
  have gd := gd_getF gq.2 n4 (more / 5)
  unfold twoN
  dsimp only
  have i0 : ∀ {ρ : Rho} {i : Nat} {c : Cl}, ρ[i]? = some (some c.toD) → PuE K (tOp (rIxT K) (tVar i) (tC (.int 0))) ρ (lsD c.1) := fun {ρ i c} h => pu_ixT (pu_cl (pu_var h)) (pu_int 0) (cix0 c)
  have i1 : ∀ {ρ : Rho} {i : Nat} {c : Cl}, ρ[i]? = some (some c.toD) → PuE K (tOp (rIxT K) (tVar i) (tC (.int 1))) ρ (lsD c.2) := fun {ρ i c} h => pu_ixT (pu_cl (pu_var h)) (pu_int 1) (cix1 c)
  refine pus_set (pu_get (i0 (c := p) rfl) (i0 (c := p) rfl) (pu_var rfl) n1) (pus_set (pu_get (i1 (c := p) rfl) (i1 (c := p) rfl) (pu_div 2 (pu_var rfl) (cdiv2 _)) n2) (pus_set (pu_get (i0 (c := q) rfl) (i0 (c := q) rfl) (pu_div 3 (pu_var rfl) (cdiv3 _)) n3) (pus_set (pu_get (i1 (c := q) rfl) (i1 (c := q) rfl) (pu_div 5 (pu_var rfl) (cdiv5 _)) n4) ?_)))
  generalize getF p.1 (more % (p.1.length : Int)) = a at ga
  generalize getF p.2 (more / 2 % (p.2.length : Int)) = b at gb
  generalize getF q.1 (more / 3 % (q.1.length : Int)) = c at gc
  generalize getF q.2 (more / 5 % (q.2.length : Int)) = d at gd
  obtain ⟨g1, g2⟩ := gp
  obtain ⟨g3, g4⟩ := gq
  have w1 := without_le p.1 a
  have w2 := without_le p.2 b
  have w3 := without_le q.1 c
  have w4 := without_le q.2 d
  have sb : Sh (without p.2 b) := sh_without g2.sh b
  have sd : Sh (without q.2 d) := sh_without g4.sh d
  have sa : Sh (without p.1 a) := sh_without g1.sh a
  have sc : Sh (without q.1 c) := sh_without g3.sh c
  refine pus_set (d := .list [lsD (once (p.1 ++ q.1)), lsD (once (p.2 ++ q.2))]) (pu_lst (pu_cons (pu_with (i0 (c := p) rfl) (i0 (c := q) rfl) g1.sh g3.sh (by omega) (by omega)) (pu_cons (pu_with (i1 (c := p) rfl) (i1 (c := q) rfl) g2.sh g4.sh (by omega) (by omega)) pu_nil)) (by simp)) ?_
  have b0 : ∀ {ρ : Rho}, ρ[8]? = some (some (.list [lsD (once (p.1 ++ q.1)), lsD (once (p.2 ++ q.2))])) → PuE K (tOp (rIxL K) (tVar 8) (tC (.int 0))) ρ (lsD (once (p.1 ++ q.1))) := fun {ρ} h => pu_ixL (pu_var h) (pu_int 0) (atI_nat (j := 0) rfl)
  have b1 : ∀ {ρ : Rho}, ρ[8]? = some (some (.list [lsD (once (p.1 ++ q.1)), lsD (once (p.2 ++ q.2))])) → PuE K (tOp (rIxL K) (tVar 8) (tC (.int 1))) ρ (lsD (once (p.2 ++ q.2))) := fun {ρ} h => pu_ixL (pu_var h) (pu_int 1) (atI_nat (j := 1) rfl)
  have m3 : ∀ (z : Int) {ρ : Rho}, ρ[3]? = some (some (.int more)) → PuT K (tTest (tOp rEq (tOp (rI (fun _ j => 0 < j) fun i j => .int (i % j)) (tVar 3) (tC (.int 3))) (tC (.int z)))) ρ (decide (more % 3 = z)) := fun z ρ h => pu_tTest (pu_eqI (pu_mod (pu_var h) (pu_int 3) (by decide)) (pu_int z))
  by_cases k7 : 7 < kind
  · rw [if_pos k7]
    exact pus_take ((pu_tTest (pu_gt (pu_var rfl) (pu_int 7))).cast (decide_eq_true k7)) (pus_ret (pu_line (w := .lem) (pu_c (b0 rfl) (pu_with (pu_wo (i1 (c := p) rfl) (pu_var rfl) g2.sh (by omega) (by omega)) (i1 (c := q) rfl) sb g4.sh (by omega) (by omega))) (pu_var rfl)))
  rw [if_neg k7]
  refine pus_skip ((pu_tTest (pu_gt (pu_var rfl) (pu_int 7))).cast (decide_eq_false k7)) ?_
  by_cases k0 : more % 3 = 0
  · rw [if_pos k0]
    have dd : (Fm.bi .an b d).dep ≤ 60 := by show max b.dep d.dep + 1 ≤ 60; omega
    refine pus_take ((m3 0 rfl).cast (decide_eq_true k0)) (pus_set (d := (Fm.bi .an b d).toD) (pu_fbi .an (pu_var rfl) (pu_var rfl)) (pus_ret (pu_line (w := .right) (pu_c (b0 rfl) (pu_with (pu_wo (i1 (c := p) rfl) (pu_var rfl) g2.sh (by omega) (by omega)) ((pu_cat (pu_wo (i1 (c := q) rfl) (pu_var rfl) g4.sh (by omega) (by omega)) (pu_l1 (f := .bi .an b d) (pu_var rfl)) ?_).cast (by unfold lsD; rw [List.map_append])) sb (sh_app sd (sh_one dd)) (by omega) ?_)) (pu_var rfl))))
    · rw [List.length_map]; show _ + 1 ≤ _; omega
    · rw [List.length_append]; show _ + 1 ≤ _; omega
  rw [if_neg k0]
  refine pus_skip ((m3 0 rfl).cast (decide_eq_false k0)) ?_
  by_cases k1 : more % 3 = 1
  · rw [if_pos k1]
    have dd : (Fm.bi .o a c).dep ≤ 60 := by show max a.dep c.dep + 1 ≤ 60; omega
    refine pus_take ((m3 1 rfl).cast (decide_eq_true k1)) (pus_set (d := (Fm.bi .o a c).toD) (pu_fbi .o (pu_var rfl) (pu_var rfl)) (pus_ret (pu_line (w := .left) (pu_c (pu_with (pu_wo (i0 (c := p) rfl) (pu_var rfl) g1.sh (by omega) (by omega)) ((pu_cat (pu_wo (i0 (c := q) rfl) (pu_var rfl) g3.sh (by omega) (by omega)) (pu_l1 (f := .bi .o a c) (pu_var rfl)) ?_).cast (by unfold lsD; rw [List.map_append])) sa (sh_app sc (sh_one dd)) (by omega) ?_) (b1 rfl)) (pu_var rfl))))
    · rw [List.length_map]; show _ + 1 ≤ _; omega
    · rw [List.length_append]; show _ + 1 ≤ _; omega
  rw [if_neg k1]
  refine pus_skip ((m3 1 rfl).cast (decide_eq_false k1)) ?_
  have dd : (Fm.bi .th b c).dep ≤ 60 := by show max b.dep c.dep + 1 ≤ 60; omega
  refine pus_set (d := (Fm.bi .th b c).toD) (pu_fbi .th (pu_var rfl) (pu_var rfl)) (pus_set (d := lsD (once (p.1 ++ (without q.1 c ++ [.bi .th b c])))) (pu_with (i0 (c := p) rfl) ((pu_cat (pu_wo (i0 (c := q) rfl) (pu_var rfl) g3.sh (by omega) (by omega)) (pu_l1 (f := .bi .th b c) (pu_var rfl)) ?_).cast (by unfold lsD; rw [List.map_append])) g1.sh (sh_app sc (sh_one dd)) (by omega) ?_)
    (pus_ret (pu_line (w := .left) (pu_c (pu_var rfl) (pu_with (pu_wo (i1 (c := p) rfl) (pu_var rfl) g2.sh (by omega) (by omega)) (i1 (c := q) rfl) sb g4.sh (by omega) (by omega))) (pu_var rfl))))
  · rw [List.length_map]; show _ + 1 ≤ _; omega
  · rw [List.length_append]; show _ + 1 ≤ _; omega
end
end Lm
set_option Elab.async false
set_option linter.all false
set_option maxRecDepth 100000
set_option maxHeartbeats 1000000
namespace Lm
open PySem PySem.Spec PyProof.Rows L2
theorem max_ex : ∀ (ns : List Int), ns ≠ [] → ∃ m, m ∈ ns ∧ ∀ y ∈ ns, y ≤ m
  | [], h => absurd rfl h
  | [n], _ => ⟨n, List.mem_cons_self, fun y hy => by rw [List.mem_singleton.mp hy]; exact Int.le_refl _⟩
  | n :: k :: ns, _ => by
    obtain ⟨m, h1, h2⟩ := max_ex (k :: ns) (by simp)
    by_cases c : n ≤ m
    · exact ⟨m, List.mem_cons_of_mem _ h1, fun y hy => by
        rcases List.mem_cons.mp hy with rfl | hy
        · exact c
        · exact h2 y hy⟩
    · exact ⟨n, List.mem_cons_self, fun y hy => by
        rcases List.mem_cons.mp hy with rfl | hy
        · exact Int.le_refl _
        · have := h2 y hy; omega⟩
theorem all_decG {α : Type} (L : List α) (p : α → Prop) [DecidablePred p] : (L.map fun x => decide (p x)).all id = decide (∀ x ∈ L, p x) := by
  rw [Bool.eq_iff_iff, decide_eq_true_eq, List.all_map]
  simp only [List.all_eq_true, Function.comp, id, decide_eq_true_eq]
theorem sum_words (L : List Fm) : (L.map fun f => (f.size : Int)).sum = (wordsS L : Int) := by
  induction L with
  | nil => rfl
  | cons f L ih =>
    rw [List.map_cons, List.sum_cons, ih, wordsS_cons]
    omega
def lnsD (ls : List Ln) : List PyData := ls.map Ln.toD
theorem lns_at {ls : List Ln} {k : Nat} (h : k < ls.length) : atI (lnsD ls) (k : Int) = some (ls[k]).toD ∧ clAt ls k = (ls[k]).c := by
  have e : ls[k]? = some ls[k] := List.getElem?_eq_getElem h
  refine ⟨atI_nat ?_, clAt_get e⟩
  unfold lnsD
  rw [List.getElem?_map, e]
  rfl
/-- a list of lines, a claim and a rule made of them, the lines used -/
def gRest (ds es fs : List PyData) : Prop := ∃ (ls : List Ln) (c : Cl) (w : Wd) (f : Fm) (us : List Nat), ds = lnsD ls ∧ es = [c.toD, (Ru.fm w f).toD, intsD (us.map fun (u : Nat) => (u : Int))] ∧ LsOk ls ∧ Made c w f ∧ (∀ u ∈ us, u < ls.length) ∧ us.length ≤ 2 ∧ (putIn w f).length = us.length ∧ ls.length ≤ 1000 ∧ fs = lnsD (restN ls c w f us)
abbrev rhoR (a : Addr) (Ls : List Ln) (c : Cl) (ru : Ru) (us : List Int) (ws : List Cl) (mn : List Int) (ps k p i : Option Ent) : RhoO :=
  [some (.m a (lnsD Ls)), some (.d c.toD), some (.d ru.toD), some (.d (intsD us)), some (.d (.list (ws.map Cl.toD))), some (.d (intsD mn)), none, none, none, ps, k, p, i]
section
variable {P : Program} {w : World} {K : PySem.W.Frag} {mg : Str → Option Value} {base : Heap} {f : Addr} {fd : FuncData}
theorem scRest : FnScope ["_law_lines", "_law_claim_here", "_law_rule", "_law_uses", "_law_wants", "_law_many", "_law_one_here", "_law_f", "_law_use", "_law_places", "_law_k", "_law_place", "_law_inner"] ["_law_lines", "_law_claim_here", "_law_rule", "_law_uses"] (defScope sRest) := ⟨rfl, rfl, rfl, by decide +kernel, rfl, by decide +kernel, by decide +kernel⟩
theorem ok_rest (D : Df K mg "_law_rest" sRest ["_law_lines", "_law_claim_here", "_law_rule", "_law_uses"] f fd) (B : Blt mg) (b_max : mg "max" = none) (b_sum : mg "sum" = none) (b_zip : mg "zip" = none) (b_range : mg "range" = none)
    (h_law_wanted : Has P w K mg base 2 "_law_wanted" ["_law_claim_here", "_law_rule"] (spPu K 2 gLWanted)) (h_law_words : Has P w K mg base 15 "_law_words" ["_law_f"] (spPu K 1 (gLWords 14))) (h_law_deep : Has P w K mg base 15 "_law_deep" ["_law_f"] (spPu K 1 (gDeep 14))) (h_law_within : Has P w K mg base 1 "_law_within" ["_law_one_here", "_law_other"] (spPu K 2 gStandsIn)) :
    FnOk P w K mg base CX0 16 f fd ["_law_lines", "_law_claim_here", "_law_rule", "_law_uses"] (spMut K 3 gRest) := by
  refine ok_mut D scRest fun cdv A outer s H E hr => ?_
  refine ⟨_, (pss_cons (ps_set (i := 4) scRest.nd rfl (by first | exact Or.inl rfl | exact Or.inr rfl) (pe_callH h_law_wanted (hr.mono (by omega)) (by rfl) (pa_cons (pv 1) (pa_cons (pv 2) pa_nil))))
    (pss_cons (ps_setLc (i := 5) (own := [("_law_one_here", 6)]) (g := gName 6) (tt := tYes) rfl scRest.nd rfl rfl (sw_true rfl rfl rfl (by decide +kernel)) (pi_list (pe_op (r := rCatL K) op_catL (pv 4) (pe_lst (pa_cons (pv 1) pa_nil)))) (blkOk_by (N := ["_law_lines", "_law_claim_here", "_law_rule", "_law_uses", "_law_wants", "_law_many", "_law_one_here", "_law_f", "_law_use", "_law_places", "_law_k", "_law_place", "_law_inner"]) (sc := defScope sRest) (by decide +kernel)) (fun _ _ _ _ _ => (pg_name (i := 6) scRest.nd rfl (by first | exact Or.inl rfl | exact Or.inr rfl))) (fun _ _ _ _ _ => pts_nil) (fun _ _ _ _ _ => (pe_callB (r := rSum K) (cr_sum rfl) (by rfl) b_sum bt_sum (pa_cons (pe_lc (own := [("_law_f", 7)]) (g := gName 7) (tt := tYes) rfl scRest.nd (pi_listK (K := K) rfl (pe_op (r := rCatL K) op_catL (pe_ix (r := rIxT K) ix_tup (pv 6) pe_int (fun _ _ => rfl)) (pe_ix (r := rIxT K) ix_tup (pv 6) pe_int (fun _ _ => rfl)))) (blkOk_by (by rfl)) (fun _ _ _ _ _ => (pg_name (i := 7) scRest.nd rfl (by first | exact Or.inl rfl | exact Or.inr rfl))) (fun _ _ _ _ _ => pts_nil) (fun _ _ _ _ _ => (pe_callH h_law_words (hr.mono (by omega)) (by rfl) (pa_cons (pv 7) pa_nil)))) pa_nil))))
    (pss_cons (ps_if (PW.pt (pw_or (pt_cmpR op_gt (pe_callB (cr_max rfl) (by rfl) b_max bt_max (pa_cons (pv 5) pa_nil)) pe_int (nomark _)) (pw_or1 (pt_cmpR op_gt (pe_callH h_law_deep (hr.mono (by omega)) (by rfl) (pa_cons (pe_ix (r := rIxT K) ix_tup (pv 2) pe_int (fun _ _ => rfl)) pa_nil)) pe_int (nomark _))))) (pss_one ps_retN) pss_nil)
    (pss_cons (ps_if (pt_not (pt_val (pe_callB (r := rAll K) (cr_all rfl) (by rfl) B.all bt_all (pa_cons (pe_lc (own := [("_law_use", 8), ("_law_one_here", 6)]) (g := gTup _ 2 (gCons (gName 8) (gCons (gName 6) gNil))) (tt := tYes) rfl scRest.nd (pi_zip (by rfl) b_zip (pa_cons (pv 3) (pa_cons (pv 4) pa_nil))) (blkOk_by (N := ["_law_lines", "_law_claim_here", "_law_rule", "_law_uses", "_law_wants", "_law_many", "_law_one_here", "_law_f", "_law_use", "_law_places", "_law_k", "_law_place", "_law_inner"]) (sc := defScope sRest) (by decide +kernel)) (fun _ _ _ _ _ => (pg_tup rfl (pgs_cons (pg_name (i := 8) scRest.nd rfl (by first | exact Or.inl rfl | exact Or.inr rfl)) (pgs_cons (pg_name (i := 6) scRest.nd rfl (by first | exact Or.inl rfl | exact Or.inr rfl)) pgs_nil)))) (fun _ _ _ _ _ => pts_nil) (fun _ _ _ _ _ => (pe_callH h_law_within (hr.mono (by omega)) (by rfl) (pa_cons (pe_ix (r := rIxT K) ix_tup (pe_ix (r := rIxL K) ix_list (pv 0) (pv 8) (fun _ _ => rfl)) pe_int (fun _ _ => rfl)) (pa_cons (pv 6) pa_nil))))) pa_nil)))) (pss_one ps_retN) pss_nil)
    (pss_cons (ps_set (i := 9) scRest.nd rfl (by first | exact Or.inl rfl | exact Or.inr rfl) (pe_lst pa_nil))
    (pss_cons (ps_for PassesOwn.never rfl (pi_range1 (by rfl) b_range (pa_cons (pe_callB (r := rLn K) call_len_seq (by rfl) B.len PySem.boot_len (pa_cons (pv 3) pa_nil)) pa_nil)) (pg_name (i := 10) scRest.nd rfl (by first | exact Or.inl rfl | exact Or.inr rfl)) (pss_cons (ps_set (i := 11) scRest.nd rfl (by first | exact Or.inl rfl | exact Or.inr rfl) (pe_ix (r := rIxL K) ix_list (pv 3) (pv 10) (fun _ _ => rfl)))
    (pss_cons (ps_set (i := 12) scRest.nd rfl (by first | exact Or.inl rfl | exact Or.inr rfl) (pe_ix (r := rIxT K) ix_tup (pe_ix (r := rIxL K) ix_list (pv 0) (pv 11) (fun _ _ => rfl)) pe_int (fun _ _ => rfl)))
    (pss_cons (ps_if (pt_not (pt_val (pe_callH h_law_within (hr.mono (by omega)) (by rfl) (pa_cons (pe_ix (r := rIxL K) ix_list (pv 4) (pv 10) (fun _ _ => rfl)) (pa_cons (pv 12) pa_nil))))) (pss_cons (ps_expr (pe_bm PySem.F.plainAttrs_list PySem.F.slot_list_append PySem.F.type_list_append mt_append (pv 0) (pa_cons (pe_tup (pa_cons (pe_ix (r := rIxL K) ix_list (pv 4) (pv 10) (fun _ _ => rfl)) (pa_cons (pe_tup (pa_cons pe_str (pa_cons (pe_tup (pa_cons (pe_callTy call_list_of (by rfl) B.list bt_list (pa_cons (pe_ix (r := rIxT K) ix_tup (pv 12) pe_int (fun _ _ => rfl)) pa_nil)) (pa_cons (pe_callTy call_list_of (by rfl) B.list bt_list (pa_cons (pe_ix (r := rIxT K) ix_tup (pv 12) pe_int (fun _ _ => rfl)) pa_nil)) pa_nil))) pa_nil))) (pa_cons (pe_lst (pa_cons (pv 11) pa_nil)) pa_nil)))) pa_nil)))
    (pss_one (ps_set (i := 11) scRest.nd rfl (by first | exact Or.inl rfl | exact Or.inr rfl) (pe_op op_sub (pe_callB (r := rLn K) call_len_seq (by rfl) B.len PySem.boot_len (pa_cons (pv 0) pa_nil)) pe_int)))) pss_nil)
    (pss_one (ps_expr (pe_bm PySem.F.plainAttrs_list PySem.F.slot_list_append PySem.F.type_list_append mt_append (pv 9) (pa_cons (pv 11) pa_nil))))))))
    (pss_one (ps_expr (pe_bm PySem.F.plainAttrs_list PySem.F.slot_list_append PySem.F.type_list_append mt_append (pv 0) (pa_cons (pe_tup (pa_cons (pv 1) (pa_cons (pv 2) (pa_cons (pv 9) pa_nil)))) pa_nil)))))))))), ?_⟩
  rintro a ds es fs hl ⟨ls, c, wd, g, us, rfl, rfl, lo, md, ub, ul, pl, ll, rfl⟩
  have gsd : g.dep ≤ 13 := md.gf.2
  have lwe := made_wants md
  have wl : (wants c (.fm wd g)).length = us.length := by rw [wants_len, pl]
  have s1 : Sh c.1 := fun f hf => Nat.le_trans (md.g1 f hf).2 (by decide)
  have s2 : Sh c.2 := fun f hf => Nat.le_trans (md.g2 f hf).2 (by decide)
  have lc : LowC c := ⟨s1, s2, Nat.le_trans md.l1 (by decide), Nat.le_trans md.l2 (by decide)⟩
  -- what is wanted
  have wg : ∀ x ∈ wants c (.fm wd g), Gd13 x.1 ∧ Gd13 x.2 ∧ x.1.length ≤ 300 ∧ x.2.length ≤ 300 := fun x hx => by
    have hx : x ∈ led c wd g := hx
    unfold led at hx
    obtain ⟨p, hp, rfl⟩ := List.mem_map.mp hx
    have pp : Gd13 p.1 ∧ Gd13 p.2 ∧ p.1.length ≤ 2 ∧ p.2.length ≤ 2 := by
      have lo := putIn_low (w := wd) (f := g) (Nat.le_trans gsd (by decide)) hp
      have kg : ∀ k, k ∈ g.kids → k.good ∧ k.dep ≤ 13 := fun k hk => ⟨kid_good md.gf.1 hk, by have := kid_dep hk; omega⟩
      have one : ∀ f, (f ∈ p.1 ∨ f ∈ p.2) → f.good ∧ f.dep ≤ 13 := fun f hf => by
        cases wd with
        | same => cases hp
        | lem =>
          simp only [putIn, List.mem_cons, List.not_mem_nil, or_false] at hp
          rcases hp with rfl | rfl
          · simp only [List.not_mem_nil, List.mem_singleton, false_or] at hf; rw [hf]; exact md.gf
          · simp only [List.not_mem_nil, List.mem_singleton, or_false] at hf; rw [hf]; exact md.gf
        | left =>
          have hp : p ∈ putL g := hp
          refine kg f ?_
          cases g with
          | sg i => cases hp
          | no k =>
            simp only [putL, List.mem_cons, List.not_mem_nil, or_false] at hp
            subst hp
            simp only [List.not_mem_nil, List.mem_singleton, false_or] at hf
            rw [hf]; exact List.mem_singleton.mpr rfl
          | bi b k l =>
            have km : k ∈ (Fm.bi b k l).kids := List.mem_cons_self
            have lm : l ∈ (Fm.bi b k l).kids := List.mem_cons_of_mem _ List.mem_cons_self
            cases b <;> simp only [putL, List.mem_cons, List.not_mem_nil, or_false] at hp
            · subst hp
              simp only [List.not_mem_nil, List.mem_cons, or_false] at hf
              rcases hf with rfl | rfl <;> assumption
            · rcases hp with rfl | rfl <;> simp only [List.not_mem_nil, List.mem_singleton, or_false] at hf <;> subst hf <;> assumption
            · rcases hp with rfl | rfl <;> simp only [List.not_mem_nil, List.mem_singleton, or_false, false_or] at hf <;> subst hf <;> assumption
        | right =>
          have hp : p ∈ putR g := hp
          refine kg f ?_
          cases g with
          | sg i => cases hp
          | no k =>
            simp only [putR, List.mem_cons, List.not_mem_nil, or_false] at hp
            subst hp
            simp only [List.not_mem_nil, List.mem_singleton, or_false] at hf
            rw [hf]; exact List.mem_singleton.mpr rfl
          | bi b k l =>
            have km : k ∈ (Fm.bi b k l).kids := List.mem_cons_self
            have lm : l ∈ (Fm.bi b k l).kids := List.mem_cons_of_mem _ List.mem_cons_self
            cases b <;> simp only [putR, List.mem_cons, List.not_mem_nil, or_false] at hp
            · rcases hp with rfl | rfl <;> simp only [List.not_mem_nil, List.mem_singleton, false_or] at hf <;> subst hf <;> assumption
            · subst hp
              simp only [List.not_mem_nil, List.mem_cons, or_false, false_or] at hf
              rcases hf with rfl | rfl <;> assumption
            · subst hp
              simp only [List.not_mem_nil, List.mem_cons, or_false] at hf
              rcases hf with rfl | rfl <;> assumption
      exact ⟨fun f hf => one f (.inl hf), fun f hf => one f (.inr hf), lo.2.2.1, lo.2.2.2⟩
    have o13 : ∀ (v : Wd) {L : List Fm}, Gd13 L → Gd13 (outOf wd v L g) := fun v {L} h => by
      show Gd13 (if wd = v then without L g else L)
      by_cases e : wd = v
      · rw [if_pos e]; exact g13_without h g
      · rw [if_neg e]; exact h
    have oL : ∀ (v : Wd) (L : List Fm), (outOf wd v L g).length ≤ L.length := fun v L => out_len wd v L g
    have k1 := once_len (outOf wd .left c.1 g ++ p.1)
    have k2 := once_len (outOf wd .right c.2 g ++ p.2)
    have o1 := oL .left c.1
    have o2 := oL .right c.2
    rw [List.length_append] at k1 k2
    have := md.l1
    have := md.l2
    exact ⟨g13_once (g13_app (o13 .left md.g1) pp.1), g13_once (g13_app (o13 .right md.g2) pp.2.1), by show (once _).length ≤ 300; omega, by show (once _).length ≤ 300; omega⟩
  generalize hws : wants c (.fm wd g) = ws at lwe wl wg
  have hfs : restN ls c wd g us = if tooMany ws c g then ls else if ¬ ∀ p ∈ us.zip ws, Sub (clAt ls p.1) p.2 then ls
      else (placesN (us.zip ws) ls []).1 ++ [⟨c, .fm wd g, (placesN (us.zip ws) ls []).2⟩] := by
    unfold restN
    rw [lwe]
  have lowx : ∀ x ∈ ws ++ [c], LowC x ∧ Gd13 x.1 ∧ Gd13 x.2 := fun x hx => by
    rcases List.mem_append.mp hx with hx | hx
    · obtain ⟨a, b, d, e⟩ := wg x hx
      exact ⟨⟨fun f hf => Nat.le_trans (a f hf).2 (by decide), fun f hf => Nat.le_trans (b f hf).2 (by decide), by omega, by omega⟩, a, b⟩
    · rw [List.mem_singleton.mp hx]
      exact ⟨lc, md.g1, md.g2⟩
  -- the first names
  let mn : List Int := (ws ++ [c]).map fun x => (wordsC x : Int)
  have cu : intsD (us.map fun (u : Nat) => (u : Int)) = .list ((us.map fun (u : Nat) => (u : Int)).map PyData.int) := rfl
  have pre : ∀ {u : TS} {o : OutO}, PuO K u (rhoR a ls c (.fm wd g) (us.map fun (u : Nat) => (u : Int)) ws mn none none none none) o →
      PuO K (tSeq (tAsg (tCall (spPu K 2 gLWanted) [] E0 (tCons (tVar 1) (tCons (tVar 2) tNil))) (gName 4)) (tSeq (tAsg (tLc (iList K (tOp (rCatL K) (tVar 4) (tLst (tCons (tVar 1) tNil)))) (gName 6) tYes (tCB (rSum K) (tCons (tLc (iList K (tOp (rCatL K) (tOp (rIxT K) (tVar 6) (tC (.int 0))) (tOp (rIxT K) (tVar 6) (tC (.int 1))))) (gName 7) tYes (tCall (spPu K 1 (gLWords 14)) [] E0 (tCons (tVar 7) tNil)) [7]) tNil)) [6]) (gName 5)) u))
        (startM ["_law_lines", "_law_claim_here", "_law_rule", "_law_uses", "_law_wants", "_law_many", "_law_one_here", "_law_f", "_law_use", "_law_places", "_law_k", "_law_place", "_law_inner"] a (lnsD ls) [c.toD, (Ru.fm wd g).toD, intsD (us.map fun (u : Nat) => (u : Int))]) o := fun {u o} hu => by
    refine puo_set (d := .list (ws.map Cl.toD)) (pu_call (pu_cons (pu_var rfl) (pu_cons (pu_var rfl) pu_nil)) rfl ⟨c, .fm wd g, rfl, lc, Nat.le_trans gsd (by decide), by rw [lwe]; rfl⟩) ?_
    refine puo_set (d := intsD mn) ((pu_map (xs := ws ++ [c]) (td := Cl.toD) (j := 6) (PuI.cast (pui_list (pu_cat (ds := ws.map Cl.toD) (es := [c.toD]) (pu_var rfl) (pu_lst (pu_cons (pu_var rfl) pu_nil) (by simp)) ?_)) ?_) ?_ (fun x => .int (wordsC x : Int)) fun x hx => ?_).cast ?_) hu
    · rw [List.length_map]; show _ + 1 ≤ _; omega
    · rw [List.map_append]; rfl
    · rw [List.length_append]; show _ + 1 ≤ _; omega
    · obtain ⟨lx, gx1, gx2⟩ := lowx x hx
      refine (pu_sum (ns := (x.1 ++ x.2).map fun f => (f.size : Int)) ((pu_map (xs := x.1 ++ x.2) (td := Fm.toD) (j := 7) (PuI.cast (pui_list (pu_cat (ds := x.1.map Fm.toD) (es := x.2.map Fm.toD) (pu_ixT (pu_cl (pu_var rfl)) (pu_int 0) (cix0 x)) (pu_ixT (pu_cl (pu_var rfl)) (pu_int 1) (cix1 x)) ?_)) ?_) ?_ (fun f => .int (f.size : Int)) fun f hf => ?_).cast ?_)).cast ?_
      · have h3 := lx.2.2.1
        have h4 := lx.2.2.2
        rw [List.length_map, List.length_map]
        omega
      · rw [List.map_append]
      · have h3 := lx.2.2.1
        have h4 := lx.2.2.2
        rw [List.length_append]
        omega
      · have fd : f.dep ≤ 13 := (List.mem_append.mp hf).elim (fun z => (gx1 f z).2) fun z => (gx2 f z).2
        exact pu_call (pu_cons (pu_var rfl) pu_nil) rfl ⟨f, rfl, by omega, rfl⟩
      · rw [List.map_map]; rfl
      · rw [sum_words, wordsS_app]; rfl
    · show PyData.list _ = .list (((ws ++ [c]).map fun x => (wordsC x : Int)).map PyData.int)
      rw [List.map_map]
      rfl
  -- the two tests
  obtain ⟨mx, mx1, mx2⟩ := max_ex mn (by show (List.map _ (ws ++ [c])) ≠ []; simp)
  have tm : (decide (24 < mx) || decide (12 < (g.dep : Int))) = decide (tooMany ws c g) := by
    rw [Bool.eq_iff_iff, Bool.or_eq_true, decide_eq_true_eq, decide_eq_true_eq, decide_eq_true_eq]
    unfold tooMany
    constructor
    · rintro (h | h)
      · obtain ⟨x, hx, e⟩ := List.mem_map.mp mx1
        exact .inl ⟨x, hx, by omega⟩
      · exact .inr (by omega)
    · rintro (⟨x, hx, h⟩ | h)
      · have := mx2 _ (List.mem_map_of_mem hx)
        exact .inl (by omega)
      · exact .inr (by omega)
  have t1 : PuT K (tOr (tTest (tOp (rI0 fun i j => .bl (decide (j < i))) (tCB (rMax K) (tCons (tVar 5) tNil)) (tC (.int 24)))) (tTest (tOp (rI0 fun i j => .bl (decide (j < i))) (tCall (spPu K 1 (gDeep 14)) [] E0 (tCons (tOp (rIxT K) (tVar 2) (tC (.int 1))) tNil)) (tC (.int 12))))) (seen (rhoR a ls c (.fm wd g) (us.map fun (u : Nat) => (u : Int)) ws mn none none none none)) (decide (tooMany ws c g)) :=
    (pu_tOr (pu_tTest (pu_gt (pu_max (ns := mn) (pu_var rfl) mx1 mx2) (pu_int 24))) fun _ => pu_tTest (pu_gt (pu_call (pu_cons (pu_ixT (ds := [.str wd.txt, g.toD]) (pu_var rfl) (pu_int 1) (tix1 _ _ _)) pu_nil) rfl ⟨g, rfl, by omega, rfl⟩) (pu_int 12))).cast tm
  have zin : ∀ p ∈ us.zip ws, p.1 < ls.length ∧ LowC p.2 := fun p hp => ⟨ub _ (List.of_mem_zip hp).1, (lowx _ (List.mem_append_left _ (List.of_mem_zip hp).2)).1⟩
  have lowl : ∀ (l : Ln), LnOk l → LowC l.c := fun l h => cl_low (Nat.le_trans h.wc (by decide)) h.gc
  have t2 : PuT K (tNot (tB (tCB (rAll K) (tCons (tLc (iZip K (tCons (tVar 3) (tCons (tVar 4) tNil))) (gTup K 2 (gCons (gName 8) (gCons (gName 6) gNil))) tYes (tCall (spPu K 2 gStandsIn) [] E0 (tCons (tOp (rIxT K) (tOp (rIxL K) (tVar 0) (tVar 8)) (tC (.int 0))) (tCons (tVar 6) tNil))) [8, 6]) tNil)))) (seen (rhoR a ls c (.fm wd g) (us.map fun (u : Nat) => (u : Int)) ws mn none none none none)) (!decide (∀ p ∈ us.zip ws, Sub (clAt ls p.1) p.2)) := by
    have hm := pu_map2 (K := K) (ρ := seen (rhoR a ls c (.fm wd g) (us.map fun (u : Nat) => (u : Int)) ws mn none none none none)) (te := tCall (spPu K 2 gStandsIn) [] E0 (tCons (tOp (rIxT K) (tOp (rIxL K) (tVar 0) (tVar 8)) (tC (.int 0))) (tCons (tVar 6) tNil))) (xs := us.zip ws) (td := fun p => .int (p.1 : Int)) (tf := fun p => p.2.toD) (j := 8) (k := 6)
      (PuI.cast (pui_zip (ds := (us.map fun (u : Nat) => (u : Int)).map PyData.int) (es := ws.map Cl.toD) (pu_var (i := 3) rfl) (pu_var (i := 4) rfl)) (by rw [List.map_map, List.zip_map, List.map_map]; rfl)) (by rw [List.length_zip]; omega) (fun p => .bool (decide (Sub (clAt ls p.1) p.2))) fun p hp => by
        obtain ⟨h1, h2⟩ := zin p hp
        obtain ⟨e1, e2⟩ := lns_at h1
        rw [e2]
        exact pu_call (pu_cons (pu_ixT (ds := [(ls[p.1]).c.toD, (ls[p.1]).r.toD, intsD (ls[p.1]).u]) (pu_ixL (ds := lnsD ls) (i := (p.1 : Int)) (pu_var rfl) (pu_var rfl) e1) (pu_int 0) (tix0 _ _ _)) (pu_cons (pu_var rfl) pu_nil)) rfl ⟨(ls[p.1]).c, p.2, rfl, lowl _ (lo _ (List.getElem_mem h1)), h2, rfl⟩
    refine pu_tNot (pu_tB ((pu_all (bs := (us.zip ws).map fun p => decide (Sub (clAt ls p.1) p.2)) (hm.cast (by rw [List.map_map]; rfl))).cast ?_))
    rw [all_decG]
  by_cases z1 : tooMany ws c g
  · left
    rw [hfs, if_pos z1]
    exact pre (puo_ifg (t1.cast (decide_eq_true z1)) (fun _ => ⟨(fun _ z => nomatch z), puo_retM (i := 0) rfl⟩) fun z => nomatch z)
  rw [if_neg z1] at hfs
  by_cases z2 : ∀ p ∈ us.zip ws, Sub (clAt ls p.1) p.2
  rotate_left
  · left
    rw [hfs, if_pos z2]
    exact pre (puo_ifg (t1.cast (decide_eq_false z1)) (fun z => nomatch z) fun _ => puo_ifg (t2.cast (c := true) (by rw [decide_eq_false z2]; rfl)) (fun _ => ⟨(fun _ z => nomatch z), puo_retM (i := 0) rfl⟩) fun z => nomatch z)
  right
  rw [hfs, if_neg (not_not_intro z2)]
  -- a turn of the loop
  have turn : ∀ (Li : List Ln) (Pi : List Int) (i u : Nat) (x : Cl), (∃ ms, Li = ls ++ ms) → LsOk Li → Li.length ≤ 2000 → Pi.length ≤ 100 → us[i]? = some u → ws[i]? = some x →
      PuO K (tSeq (tAsg (tOp (rIxL K) (tVar 3) (tVar 10)) (gName 11)) (tSeq (tAsg (tOp (rIxT K) (tOp (rIxL K) (tVar 0) (tVar 11)) (tC (.int 0))) (gName 12))
        (tSeq (tIfS (tNot (tB (tCall (spPu K 2 gStandsIn) [] E0 (tCons (tOp (rIxL K) (tVar 4) (tVar 10)) (tCons (tVar 12) tNil)))))
          (tSeq (tDrop (tBM K "list" rAppend (tVar 0) (tCons (tTup (tCons (tOp (rIxL K) (tVar 4) (tVar 10)) (tCons (tTup (tCons (tC (.str ("more" : Str))) (tCons (tTup (tCons (tCB (fun xs H Q => ∃ p ys, xs = [V.ref p] ∧ (SqL K H p ys ∨ SqT K H p ys) ∧ ∀ l, H l = none → Q (.ref l) (upd H l (.lst ys))) (tCons (tOp (rIxT K) (tVar 12) (tC (.int 0))) tNil)) (tCons (tCB (fun xs H Q => ∃ p ys, xs = [V.ref p] ∧ (SqL K H p ys ∨ SqT K H p ys) ∧ ∀ l, H l = none → Q (.ref l) (upd H l (.lst ys))) (tCons (tOp (rIxT K) (tVar 12) (tC (.int 1))) tNil)) tNil))) tNil))) (tCons (tLst (tCons (tVar 11) tNil)) tNil)))) tNil))) (tAsg (tOp (rI0 fun i j => .int (i - j)) (tCB (rLn K) (tCons (tVar 0) tNil)) (tC (.int 1))) (gName 11))) tNext)
          (tDrop (tBM K "list" rAppend (tVar 9) (tCons (tVar 11) tNil))))))
        (rhoR a Li c (.fm wd g) (us.map fun (u : Nat) => (u : Int)) ws mn (some (.o (Pi.map PyData.int))) (some (.d (.int (0 + (i : Int))))) none none)
        (.nx (rhoR a (placesN [(u, x)] Li Pi).1 c (.fm wd g) (us.map fun (u : Nat) => (u : Int)) ws mn (some (.o ((placesN [(u, x)] Li Pi).2.map PyData.int))) none none none)) := by
    rintro Li Pi i u x ⟨ms, rfl⟩ hL lL lP hu hx
    have um := List.mem_of_getElem? hu
    have xm := List.mem_of_getElem? hx
    have ul' : u < (ls ++ ms).length := by rw [List.length_append]; have := ub u um; omega
    obtain ⟨e1, e2⟩ := lns_at ul'
    have lu := hL _ (List.getElem_mem ul')
    have lx := (lowx x (List.mem_append_left _ xm)).1
    generalize (ls ++ ms)[u] = l at e1 e2 lu
    generalize hLi : ls ++ ms = Li at e1 e2 hL lL ul'
    have a3 : atI ((us.map fun (u : Nat) => (u : Int)).map PyData.int) (i : Int) = some (.int (u : Int)) := atI_nat (by rw [List.getElem?_map, List.getElem?_map, hu]; rfl)
    have a4 : atI (ws.map Cl.toD) (i : Int) = some x.toD := atI_nat (by rw [List.getElem?_map, hx]; rfl)
    have z0 : (0 + (i : Int)) = (i : Int) := Int.zero_add _
    rw [z0]
    refine puo_set (d := .int (u : Int)) (pu_ixL (ds := (us.map fun (u : Nat) => (u : Int)).map PyData.int) (i := (i : Int)) (pu_var rfl) (pu_var rfl) a3) ?_
    refine puo_setX (d := l.c.toD) (px_ixT (ds := [l.c.toD, l.r.toD, intsD l.u]) (k := 0) (px_ixO (i := 0) (ds := lnsD Li) (k := (u : Int)) rfl rfl (px_of (pu_var rfl)) e1) (px_of (pu_int 0)) (tix0 _ _ _)) ?_
    have tw : ∀ (b : Bool), b = decide (Sub x l.c) → PuT K (tNot (tB (tCall (spPu K 2 gStandsIn) [] E0 (tCons (tOp (rIxL K) (tVar 4) (tVar 10)) (tCons (tVar 12) tNil))))) (seen (rhoR a Li c (.fm wd g) (us.map fun (u : Nat) => (u : Int)) ws mn (some (.o (Pi.map PyData.int))) (some (.d (.int (i : Int)))) (some (.d (.int (u : Int)))) (some (.d l.c.toD)))) (!b) := fun b hb =>
      pu_tNot (pu_tB (pu_call (pu_cons (pu_ixL (ds := ws.map Cl.toD) (i := (i : Int)) (pu_var rfl) (pu_var rfl) a4) (pu_cons (pu_var rfl) pu_nil)) rfl ⟨x, l.c, rfl, lx, lowl _ lu, by rw [hb]⟩))
    have last : ∀ (Lj : List Ln) (v : Int), PuO K (tDrop (tBM K "list" rAppend (tVar 9) (tCons (tVar 11) tNil))) (rhoR a Lj c (.fm wd g) (us.map fun (u : Nat) => (u : Int)) ws mn (some (.o (Pi.map PyData.int))) (some (.d (.int (i : Int)))) (some (.d (.int v))) (some (.d l.c.toD)))
        (.nx (rhoR a Lj c (.fm wd g) (us.map fun (u : Nat) => (u : Int)) ws mn (some (.o ((Pi ++ [v]).map PyData.int))) none none none)) := fun Lj v => by
      have h := puo_append (K := K) (ρ := rhoR a Lj c (.fm wd g) (us.map fun (u : Nat) => (u : Int)) ws mn (some (.o (Pi.map PyData.int))) (some (.d (.int (i : Int)))) (some (.d (.int v))) (some (.d l.c.toD))) (i := 9) (ds := Pi.map PyData.int) (d := .int v) (te := tVar 11) rfl (by rw [List.length_map]; omega) (pu_var rfl)
      have h2 := puo_forget 12 (puo_forget 11 (puo_forget 10 h))
      rw [List.map_append]
      exact h2
    by_cases sb : Sub x (clAt Li u)
    · have ep : placesN [(u, x)] Li Pi = (Li, Pi ++ [(u : Int)]) := by rw [placesN, if_pos sb]; rfl
      rw [ep]
      rw [e2] at sb
      exact puo_seq (ρ' := rhoR a Li c (.fm wd g) (us.map fun (u : Nat) => (u : Int)) ws mn (some (.o (Pi.map PyData.int))) (some (.d (.int (i : Int)))) (some (.d (.int (u : Int)))) (some (.d l.c.toD))) (puo_if (b := !true) (tw true (decide_eq_true sb).symm) (fun z => nomatch z) fun _ => puo_next) (last Li u)
    · have ep : placesN [(u, x)] Li Pi = (Li ++ [⟨x, .more (clAt Li u), [(u : Int)]⟩], Pi ++ [(Li.length : Int)]) := by rw [placesN, if_neg sb]; rfl
      rw [ep]
      rw [e2] at sb ⊢
      have ec : lnsD (Li ++ [⟨x, .more l.c, [(u : Int)]⟩]) = lnsD Li ++ [Ln.toD ⟨x, .more l.c, [(u : Int)]⟩] := by unfold lnsD; rw [List.map_append]; rfl
      refine puo_seq (ρ' := rhoR a (Li ++ [⟨x, .more l.c, [(u : Int)]⟩]) c (.fm wd g) (us.map fun (u : Nat) => (u : Int)) ws mn (some (.o (Pi.map PyData.int))) (some (.d (.int (i : Int)))) (some (.d (.int (Li.length : Int)))) (some (.d l.c.toD))) (puo_if (b := !false) (tw false (decide_eq_false sb).symm) (fun _ => ?_) fun z => nomatch z) (last _ _)
      have ll2 : (lnsD Li).length < 100000 := by unfold lnsD; rw [List.length_map]; omega
      have ap := puo_appendE (K := K) (ρ := rhoR a Li c (.fm wd g) (us.map fun (u : Nat) => (u : Int)) ws mn (some (.o (Pi.map PyData.int))) (some (.d (.int (i : Int)))) (some (.d (.int (u : Int)))) (some (.d l.c.toD))) (i := 0) (y0 := .m a (lnsD Li)) (ds := lnsD Li) (d := Ln.toD ⟨x, .more l.c, [(u : Int)]⟩) rfl rfl ll2
        (pu_tup (pu_cons (pu_ixL (ds := ws.map Cl.toD) (i := (i : Int)) (pu_var (i := 4) rfl) (pu_var (i := 10) rfl) a4) (pu_cons (pu_tup (pu_cons (pu_str ("more" : Str)) (pu_cons (pu_tup (pu_cons (pu_copy (pu_ixT (pu_cl (pu_var (i := 12) rfl)) (pu_int 0) (cix0 l.c))) (pu_cons (pu_copy (pu_ixT (pu_cl (pu_var (i := 12) rfl)) (pu_int 1) (cix1 l.c))) pu_nil)) (by simp)) pu_nil)) (by simp)) (pu_cons (pu_lst (pu_cons (pu_var (i := 11) rfl) pu_nil) (by simp)) pu_nil))) (by simp))
      refine puo_seq (ap.cast (o' := .nx (rhoR a (Li ++ [⟨x, .more l.c, [(u : Int)]⟩]) c (.fm wd g) (us.map fun (u : Nat) => (u : Int)) ws mn (some (.o (Pi.map PyData.int))) (some (.d (.int (i : Int)))) (some (.d (.int (u : Int)))) (some (.d l.c.toD)))) (congrArg OutO.nx ?_)) ?_
      · show (some (Ent.m a (lnsD Li ++ [Ln.toD ⟨x, .more l.c, [(u : Int)]⟩])) :: _ : RhoO) = some (Ent.m a (lnsD (Li ++ [⟨x, .more l.c, [(u : Int)]⟩]))) :: _
        rw [ec]
      have h2 := puo_setX1 (K := K) (ρ := rhoR a (Li ++ [⟨x, .more l.c, [(u : Int)]⟩]) c (.fm wd g) (us.map fun (u : Nat) => (u : Int)) ws mn (some (.o (Pi.map PyData.int))) (some (.d (.int (i : Int)))) (some (.d (.int (u : Int)))) (some (.d l.c.toD))) (i := 11) (d := .int (Li.length : Int)) (te := tOp (rI0 fun i j => .int (i - j)) (tCB (rLn K) (tCons (tVar 0) tNil)) (tC (.int 1)))
        (px_flat ((pu_sub (pu_len_l (ds := lnsD (Li ++ [⟨x, .more l.c, [(u : Int)]⟩])) (pu_var rfl)) (pu_int 1)).cast (by unfold lnsD; rw [List.length_map, List.length_append, List.length_singleton]; congr 1; omega)) rfl)
      exact h2
  -- the loop
  have zl : (us.zip ws).length = us.length := by rw [List.length_zip]; omega
  have stp : ∀ i u x, us[i]? = some u → ws[i]? = some x → (us.zip ws).take (i + 1) = (us.zip ws).take i ++ [(u, x)] := fun i u x hu hx => by
    have e : (us.zip ws)[i]? = some (u, x) := List.getElem?_zip_eq_some.mpr ⟨hu, hx⟩
    rw [List.take_succ, e]
    rfl
  have pok : ∀ i, LsOk (placesN ((us.zip ws).take i) ls []).1 ∧ (placesN ((us.zip ws).take i) ls []).1.length ≤ ls.length + 2 ∧ (placesN ((us.zip ws).take i) ls []).2.length ≤ 2 := fun i => by
    have hp : ∀ p ∈ (us.zip ws).take i, GdC p.2 ∧ wordsC p.2 ≤ 24 := fun p hp => by
      have pm := (List.of_mem_zip (List.mem_of_mem_take hp)).2
      have fd : g.dep ≤ 12 := Nat.le_of_not_lt fun z => z1 (.inr z)
      have wc : ∀ x ∈ ws ++ [c], wordsC x ≤ 24 := fun x hx => Nat.le_of_not_lt fun z => z1 (.inl ⟨x, hx, z⟩)
      have cw := wc c (List.mem_append_right _ List.mem_cons_self)
      have wm := (wants_mid (c := c) (ru := .fm wd g) ⟨md.low fd, Nat.le_trans cw (by decide)⟩ ⟨md.gf.1, fd⟩ md.fit).1
      rw [hws] at wm
      exact ⟨(wm _ pm).gd, wc _ (List.mem_append_left _ pm)⟩
    obtain ⟨a, b, d, e⟩ := places_ok _ ls [] lo hp
    have tl : ((us.zip ws).take i).length ≤ 2 := by rw [List.length_take]; omega
    have nl : ([] : List Int).length = 0 := rfl
    exact ⟨a, by omega, by omega⟩
  have nU : ((us.map fun (u : Nat) => (u : Int)).map PyData.int).length = us.length := by rw [List.length_map, List.length_map]
  refine ⟨rhoR a ((placesN (us.zip ws) ls []).1 ++ [⟨c, .fm wd g, (placesN (us.zip ws) ls []).2⟩]) c (.fm wd g) (us.map fun (u : Nat) => (u : Int)) ws mn (some (.d (intsD (placesN (us.zip ws) ls []).2))) none none none, 0, ?_, rfl⟩
  refine pre (puo_ifg (t1.cast (decide_eq_false z1)) (fun z => nomatch z) fun _ => puo_ifg (t2.cast (c := false) (by rw [decide_eq_true z2]; rfl)) (fun z => nomatch z) fun _ => ?_)
  refine puo_new (i := 9) pu_nil (by simp) ?_
  refine puo_seq (ρ' := rhoR a (placesN (us.zip ws) ls []).1 c (.fm wd g) (us.map fun (u : Nat) => (u : Int)) ws mn (some (.o ((placesN (us.zip ws) ls []).2.map PyData.int))) none none none) ?_ ?_
  · refine puo_for (k := us.length) (xs := List.range us.length) (td := fun (i : Nat) => PyData.int (0 + (i : Int))) (fun i => rhoR a (placesN ((us.zip ws).take i) ls []).1 c (.fm wd g) (us.map fun (u : Nat) => (u : Int)) ws mn (some (.o ((placesN ((us.zip ws).take i) ls []).2.map PyData.int))) none none none)
      (PuI.cast (pui_rng1 (n := (us.length : Int)) ((pu_len_l (ds := (us.map fun (u : Nat) => (u : Int)).map PyData.int) (pu_var rfl)).cast (by rw [nU])) (by omega) (by omega)) rfl) (by rw [List.take_zero]; rfl) (by rw [List.length_range]; exact Nat.le_refl _) (fun i x hi hx => ?_) (.inl ⟨by rw [List.length_range], ?_⟩)
    · obtain ⟨il, e⟩ := List.getElem?_eq_some_iff.mp hx
      rw [List.getElem_range] at e
      subst e
      have il2 : i < us.length := hi
      have hu : us[i]? = some us[i] := List.getElem?_eq_getElem il2
      have hw : ws[i]? = some (ws[i]'(by omega)) := List.getElem?_eq_getElem (by omega)
      obtain ⟨p1, p2, p3⟩ := pok i
      refine ⟨_, pgo_name 10, .inl ?_⟩
      have h := turn (placesN ((us.zip ws).take i) ls []).1 (placesN ((us.zip ws).take i) ls []).2 i _ _ (places_old _ _ _) p1 (by omega) (by omega) hu hw
      rw [← places_app, ← stp i _ _ hu hw] at h
      exact h
    · rw [← zl, List.take_length]
  · obtain ⟨p1, p2, p3⟩ := pok (us.zip ws).length
    rw [List.take_length] at p1 p2 p3
    refine puo_freeze (i := 9) rfl ?_
    have ll2 : (lnsD (placesN (us.zip ws) ls []).1).length < 100000 := by unfold lnsD; rw [List.length_map]; omega
    have ap := puo_appendE (K := K) (ρ := rhoR a (placesN (us.zip ws) ls []).1 c (.fm wd g) (us.map fun (u : Nat) => (u : Int)) ws mn (some (.d (intsD (placesN (us.zip ws) ls []).2))) none none none) (i := 0) (y0 := .m a (lnsD (placesN (us.zip ws) ls []).1)) (ds := lnsD (placesN (us.zip ws) ls []).1) (d := Ln.toD ⟨c, .fm wd g, (placesN (us.zip ws) ls []).2⟩) rfl rfl ll2
      (pu_tup (pu_cons (pu_var (i := 1) rfl) (pu_cons (pu_var (i := 2) rfl) (pu_cons (pu_var (i := 9) rfl) pu_nil))) (by simp))
    have ec : lnsD ((placesN (us.zip ws) ls []).1 ++ [⟨c, .fm wd g, (placesN (us.zip ws) ls []).2⟩]) = lnsD (placesN (us.zip ws) ls []).1 ++ [Ln.toD ⟨c, .fm wd g, (placesN (us.zip ws) ls []).2⟩] := by unfold lnsD; rw [List.map_append]; rfl
    refine ap.cast (congrArg OutO.nx ?_)
    show (some (Ent.m a (lnsD (placesN (us.zip ws) ls []).1 ++ [Ln.toD ⟨c, .fm wd g, (placesN (us.zip ws) ls []).2⟩])) :: _ : RhoO) = some (Ent.m a (lnsD ((placesN (us.zip ws) ls []).1 ++ [⟨c, .fm wd g, (placesN (us.zip ws) ls []).2⟩]))) :: _
    rw [ec]
end
end Lm
set_option Elab.async false
set_option linter.all false
set_option maxRecDepth 100000
set_option maxHeartbeats 1000000
namespace Lm
open PySem PySem.Spec PyProof.Rows L2
theorem min_ex : ∀ (ns : List Int), ns ≠ [] → ∃ m, m ∈ ns ∧ ∀ y ∈ ns, m ≤ y
  | [], h => absurd rfl h
  | [n], _ => ⟨n, List.mem_cons_self, fun y hy => by rw [List.mem_singleton.mp hy]; exact Int.le_refl _⟩
  | n :: k :: ns, _ => by
    obtain ⟨m, h1, h2⟩ := min_ex (k :: ns) (by simp)
    by_cases c : m ≤ n
    · exact ⟨m, List.mem_cons_of_mem _ h1, fun y hy => by
        rcases List.mem_cons.mp hy with rfl | hy
        · exact c
        · exact h2 y hy⟩
    · exact ⟨n, List.mem_cons_self, fun y hy => by
        rcases List.mem_cons.mp hy with rfl | hy
        · exact Int.le_refl _
        · have := h2 y hy; omega⟩
def gGrown (ds es fs : List PyData) : Prop := ∃ (ls : List Ln) (cell base : Int), ds = lnsD ls ∧ es = [.int cell, .int base] ∧ LsOk ls ∧ ls ≠ [] ∧ ls.length ≤ 900 ∧ fs = lnsD (grownN ls cell base)
def gChain (ds es : List PyData) : Prop := ∃ (cells : List Int) (base : Int), ds = [intsD cells, .int base] ∧ cells ≠ [] ∧ cells.length ≤ 40 ∧ es = lnsD (chainN cells base)
abbrev rhoG (a : Addr) (Ls : List Ln) (cell base more : Int) (at_ : Nat) (p q : Cl) (kind : Int) (x8 x9 x10 x11 : Option Ent) : RhoO :=
  [some (.m a (lnsD Ls)), some (.d (.int cell)), some (.d (.int base)), some (.d (.int more)), some (.d (.int (at_ : Int))), some (.d p.toD), some (.d q.toD), some (.d (.int kind)), x8, x9, x10, x11]
theorem rep_map (g : Fm) (k : Int) : (List.replicate k.toNat [g.toD]).flatten = (repB g k).map Fm.toD := by
  unfold repB
  generalize k.toNat = n
  induction n with
  | zero => rfl
  | succ n ih => rw [List.replicate_succ, List.flatten_cons, ih, List.replicate_succ, List.map_cons]; rfl
section
variable {P : Program} {w : World} {K : PySem.W.Frag} {mg : Str → Option Value} {base : Heap} {f : Addr} {fd : FuncData}
theorem scGrown : FnScope ["_law_lines", "_law_cell", "_law_base", "_law_more", "_law_at", "_law_one_here", "_law_other", "_law_kind", "_law_f", "_law_beside", "_law_claim_here", "_law_made"] ["_law_lines", "_law_cell", "_law_base"] (defScope sGrown) := ⟨rfl, rfl, rfl, by decide +kernel, rfl, by decide +kernel, by decide +kernel⟩
theorem ok_grown (D : Df K mg "_law_grown" sGrown ["_law_lines", "_law_cell", "_law_base"] f fd) (B : Blt mg) (b_min : mg "min" = none)
    (h_law_formula : Has P w K mg base 5 "_law_formula" ["_law_cell", "_law_deep_here", "_law_base"] (spPu K 3 (gFormula 3))) (h_law_with : Has P w K mg base 1 "_law_with" ["_law_row", "_law_more"] (spPu K 2 gWith)) (h_law_one : Has P w K mg base 2 "_law_one" ["_law_left", "_law_right", "_law_kind", "_law_more"] (spPu K 4 gOne)) (h_law_two : Has P w K mg base 2 "_law_two" ["_law_one_here", "_law_other", "_law_kind", "_law_more"] (spPu K 4 gTwo))
    (h_law_rest : Has P w K mg base 16 "_law_rest" ["_law_lines", "_law_claim_here", "_law_rule", "_law_uses"] (spMut K 3 gRest)) : FnOk P w K mg base CX0 17 f fd ["_law_lines", "_law_cell", "_law_base"] (spMut K 2 gGrown) := by
  refine ok_mut D scGrown fun cdv A outer s H E hr => ?_
  refine ⟨_, (pss_cons (ps_set (i := 3) scGrown.nd rfl (by first | exact Or.inl rfl | exact Or.inr rfl) (pe_op op_fdiv (pv 1) pe_int))
    (pss_cons (ps_set (i := 4) scGrown.nd rfl (by first | exact Or.inl rfl | exact Or.inr rfl) (pe_op op_sub (pe_op op_sub (pe_callB (r := rLn K) call_len_seq (by rfl) B.len PySem.boot_len (pa_cons (pv 0) pa_nil)) pe_int) (pe_op op_mod (pv 3) (pe_callB (call_min2 rfl) (by rfl) b_min bt_min (pa_cons (pe_callB (r := rLn K) call_len_seq (by rfl) B.len PySem.boot_len (pa_cons (pv 0) pa_nil)) (pa_cons pe_int pa_nil))))))
    (pss_cons (ps_set (i := 5) scGrown.nd rfl (by first | exact Or.inl rfl | exact Or.inr rfl) (pe_ix (r := rIxT K) ix_tup (pe_ix (r := rIxL K) ix_list (pv 0) (pv 4) (fun _ _ => rfl)) pe_int (fun _ _ => rfl)))
    (pss_cons (ps_set (i := 6) scGrown.nd rfl (by first | exact Or.inl rfl | exact Or.inr rfl) (pe_ix (r := rIxT K) ix_tup (pe_ix (r := rIxL K) ix_list (pv 0) (pe_op op_mod (pe_op op_fdiv (pv 3) pe_int) (pe_callB (r := rLn K) call_len_seq (by rfl) B.len PySem.boot_len (pa_cons (pv 0) pa_nil))) (fun _ _ => rfl)) pe_int (fun _ _ => rfl)))
    (pss_cons (ps_set (i := 7) scGrown.nd rfl (by first | exact Or.inl rfl | exact Or.inr rfl) (pe_op op_mod (pv 1) pe_int))
    (pss_one (ps_if (PW.pt (pw_or (pt_cmpR op_lt (pv 7) pe_int (nomark _)) (pw_or1 (pt_cmpR op_eq (pe_callB (r := rMin4) (call_min4 rfl) (by rfl) b_min bt_min (pa_cons (pe_callB (r := rLn K) call_len_seq (by rfl) B.len PySem.boot_len (pa_cons (pe_ix (r := rIxT K) ix_tup (pv 5) pe_int (fun _ _ => rfl)) pa_nil)) (pa_cons (pe_callB (r := rLn K) call_len_seq (by rfl) B.len PySem.boot_len (pa_cons (pe_ix (r := rIxT K) ix_tup (pv 5) pe_int (fun _ _ => rfl)) pa_nil)) (pa_cons (pe_callB (r := rLn K) call_len_seq (by rfl) B.len PySem.boot_len (pa_cons (pe_ix (r := rIxT K) ix_tup (pv 6) pe_int (fun _ _ => rfl)) pa_nil)) (pa_cons (pe_callB (r := rLn K) call_len_seq (by rfl) B.len PySem.boot_len (pa_cons (pe_ix (r := rIxT K) ix_tup (pv 6) pe_int (fun _ _ => rfl)) pa_nil)) pa_nil))))) pe_int (nomark _))))) (pss_cons (ps_set (i := 8) scGrown.nd rfl (by first | exact Or.inl rfl | exact Or.inr rfl) (pe_callH h_law_formula (hr.mono (by omega)) (by rfl) (pa_cons (pe_op op_mod (pe_op op_mul (pv 3) pe_int) pe_int) (pa_cons pe_int (pa_cons (pv 2) pa_nil)))))
    (pss_cons (ps_set (i := 9) scGrown.nd rfl (by first | exact Or.inl rfl | exact Or.inr rfl) (pe_lst (pa_cons (pe_callH h_law_formula (hr.mono (by omega)) (by rfl) (pa_cons (pe_op op_mod (pe_op op_mul (pv 3) pe_int) pe_int) (pa_cons pe_int (pa_cons (pv 2) pa_nil)))) pa_nil)))
    (pss_cons (ps_set (i := 10) scGrown.nd rfl (by first | exact Or.inl rfl | exact Or.inr rfl) (pe_tup (pa_cons (pe_callH h_law_with (hr.mono (by omega)) (by rfl) (pa_cons (pe_lst (pa_cons (pv 8) pa_nil)) (pa_cons (pe_op (r := rRepL K) op_repL (pv 9) (pe_op op_mod (pe_op op_fdiv (pv 1) pe_int) pe_int)) pa_nil))) (pa_cons (pe_callH h_law_with (hr.mono (by omega)) (by rfl) (pa_cons (pe_op (r := rRepL K) op_repL (pv 9) (pe_op op_mod (pe_op op_fdiv (pv 1) pe_int) pe_int)) (pa_cons (pe_lst (pa_cons (pv 8) pa_nil)) pa_nil))) pa_nil))))
    (pss_one (ps_expr (pe_bm PySem.F.plainAttrs_list PySem.F.slot_list_append PySem.F.type_list_append mt_append (pv 0) (pa_cons (pe_tup (pa_cons (pv 10) (pa_cons (pe_tup (pa_cons pe_str (pa_cons (pv 8) pa_nil))) (pa_cons (pe_lst pa_nil) pa_nil)))) pa_nil))))))) (pss_one (ps_if (pt_cmpR op_lt (pv 7) pe_int (nomark _)) (pss_cons (ps_set (i := 11) scGrown.nd rfl (by first | exact Or.inl rfl | exact Or.inr rfl) (pe_callH h_law_one (hr.mono (by omega)) (by rfl) (pa_cons (pe_ix (r := rIxT K) ix_tup (pv 5) pe_int (fun _ _ => rfl)) (pa_cons (pe_ix (r := rIxT K) ix_tup (pv 5) pe_int (fun _ _ => rfl)) (pa_cons (pv 7) (pa_cons (pv 3) pa_nil))))))
    (pss_one (ps_expr (pe_callH h_law_rest (hr.mono (by omega)) (by rfl) (pa_cons (pv 0) (pa_cons (pe_ix (r := rIxT K) ix_tup (pv 11) pe_int (fun _ _ => rfl)) (pa_cons (pe_ix (r := rIxT K) ix_tup (pv 11) pe_int (fun _ _ => rfl)) (pa_cons (pe_lst (pa_cons (pv 4) pa_nil)) pa_nil)))))))) (pss_cons (ps_set (i := 11) scGrown.nd rfl (by first | exact Or.inl rfl | exact Or.inr rfl) (pe_callH h_law_two (hr.mono (by omega)) (by rfl) (pa_cons (pv 5) (pa_cons (pv 6) (pa_cons (pv 7) (pa_cons (pv 3) pa_nil))))))
    (pss_one (ps_expr (pe_callH h_law_rest (hr.mono (by omega)) (by rfl) (pa_cons (pv 0) (pa_cons (pe_ix (r := rIxT K) ix_tup (pv 11) pe_int (fun _ _ => rfl)) (pa_cons (pe_ix (r := rIxT K) ix_tup (pv 11) pe_int (fun _ _ => rfl)) (pa_cons (pe_lst (pa_cons (pv 4) (pa_cons (pe_op op_mod (pe_op op_fdiv (pv 3) pe_int) (pe_callB (r := rLn K) call_len_seq (by rfl) B.len PySem.boot_len (pa_cons (pv 0) pa_nil))) pa_nil))) pa_nil))))))))))))))))), ?_⟩
  rintro a ds es fs hl ⟨ls, cell, base, rfl, rfl, lo, ne, ll, rfl⟩
  right
  have lp : 0 < ls.length := List.length_pos_iff.mpr ne
  have lnl : (lnsD ls).length = ls.length := List.length_map _
  -- where the two lines stand
  obtain ⟨A0, hA⟩ : ∃ A0 : Nat, A0 = ((ls.length : Int) - 1 - cell / 10 % (if 3 < (ls.length : Int) then 3 else (ls.length : Int))).toNat := ⟨_, rfl⟩
  obtain ⟨B0, hB⟩ : ∃ B0 : Nat, B0 = (cell / 10 / 7 % (ls.length : Int)).toNat := ⟨_, rfl⟩
  have mp : (0 : Int) < (if 3 < (ls.length : Int) then 3 else (ls.length : Int)) := by split <;> omega
  have ml : (if 3 < (ls.length : Int) then 3 else (ls.length : Int)) ≤ (ls.length : Int) := by split <;> omega
  have m0 := Int.emod_nonneg (cell / 10) (show (if 3 < (ls.length : Int) then 3 else (ls.length : Int)) ≠ 0 by omega)
  have m1 := Int.emod_lt_of_pos (cell / 10) mp
  have n0 := Int.emod_nonneg (cell / 10 / 7) (show (ls.length : Int) ≠ 0 by omega)
  have n1 := Int.emod_lt_of_pos (cell / 10 / 7) (show (0 : Int) < (ls.length : Int) by omega)
  have eA : (A0 : Int) = (ls.length : Int) - 1 - cell / 10 % (if 3 < (ls.length : Int) then 3 else (ls.length : Int)) := by omega
  have eB : (B0 : Int) = cell / 10 / 7 % (ls.length : Int) := by omega
  have lA : A0 < ls.length := by omega
  have lB : B0 < ls.length := by omega
  obtain ⟨a1, a2⟩ := lns_at lA
  obtain ⟨b1, b2⟩ := lns_at lB
  have oA := lo _ (List.getElem_mem lA)
  have oB := lo _ (List.getElem_mem lB)
  unfold grownN
  dsimp only
  rw [← hA, ← hB, a2, b2]
  generalize ls[A0] = la at a1 oA
  generalize ls[B0] = lb at b1 oB
  have len : ∀ {l : Ln}, LnOk l → l.c.1.length ≤ 24 ∧ l.c.2.length ≤ 24 := fun {l} h => by
    have h : wordsS l.c.1 + wordsS l.c.2 ≤ 24 := h.wc
    have := words_len l.c.1
    have := words_len l.c.2
    omega
  have pre : ∀ {u : TS} {o : OutO}, PuO K u (rhoG a ls cell base (cell / 10) A0 la.c lb.c (cell % 10) none none none none) o →
      PuO K (tSeq (tAsg (tOp (rI CDiv fun i j => .int (i / j)) (tVar 1) (tC (.int 10))) (gName 3))
        (tSeq (tAsg (tOp (rI0 fun i j => .int (i - j)) (tOp (rI0 fun i j => .int (i - j)) (tCB (rLn K) (tCons (tVar 0) tNil)) (tC (.int 1))) (tOp (rI (fun _ j => 0 < j) fun i j => .int (i % j)) (tVar 3) (tCB (fun xs H Q => ∃ i j, xs = [V.int i, .int j] ∧ Q (.int (if j < i then j else i)) H) (tCons (tCB (rLn K) (tCons (tVar 0) tNil)) (tCons (tC (.int 3)) tNil))))) (gName 4))
        (tSeq (tAsg (tOp (rIxT K) (tOp (rIxL K) (tVar 0) (tVar 4)) (tC (.int 0))) (gName 5))
        (tSeq (tAsg (tOp (rIxT K) (tOp (rIxL K) (tVar 0) (tOp (rI (fun _ j => 0 < j) fun i j => .int (i % j)) (tOp (rI CDiv fun i j => .int (i / j)) (tVar 3) (tC (.int 7))) (tCB (rLn K) (tCons (tVar 0) tNil)))) (tC (.int 0))) (gName 6))
        (tSeq (tAsg (tOp (rI (fun _ j => 0 < j) fun i j => .int (i % j)) (tVar 1) (tC (.int 10))) (gName 7)) u)))))
        (startM ["_law_lines", "_law_cell", "_law_base", "_law_more", "_law_at", "_law_one_here", "_law_other", "_law_kind", "_law_f", "_law_beside", "_law_claim_here", "_law_made"] a (lnsD ls) [.int cell, .int base]) o := fun {u o} hu => by
    refine puo_set (pu_div 10 (pu_var rfl) (cdiv10 _)) ?_
    refine puo_setF (d := .int (A0 : Int)) rfl ((pu_sub (pu_sub (pu_len_l (ds := lnsD ls) (pu_var rfl)) (pu_int 1)) (pu_mod (pu_var rfl) (pu_min2 (pu_len_l (ds := lnsD ls) (pu_var rfl)) (pu_int 3)) (by rw [lnl]; exact mp))).cast (by rw [lnl, eA])) ?_
    refine puo_setX (d := la.c.toD) (px_ixT (ds := [la.c.toD, la.r.toD, intsD la.u]) (k := 0) (px_ixO (i := 0) (ds := lnsD ls) (k := (A0 : Int)) rfl rfl (px_of (pu_var rfl)) a1) (px_of (pu_int 0)) (tix0 _ _ _)) ?_
    refine puo_setX (d := lb.c.toD) (px_ixT (ds := [lb.c.toD, lb.r.toD, intsD lb.u]) (k := 0) (px_ixO (i := 0) (ds := lnsD ls) (k := (B0 : Int)) rfl rfl (px_flat ((pu_mod (pu_div 7 (pu_var rfl) (cdiv7 _)) (pu_len_l (ds := lnsD ls) (pu_var rfl)) (by rw [lnl]; omega)).cast (by rw [lnl, eB])) rfl) b1) (px_of (pu_int 0)) (tix0 _ _ _)) ?_
    exact puo_set (pu_mod (pu_var rfl) (pu_int 10) (by decide)) hu
  obtain ⟨mn, mn1, mn2⟩ := min_ex [((la.c.1.length : Nat) : Int), ((la.c.2.length : Nat) : Int), ((lb.c.1.length : Nat) : Int), ((lb.c.2.length : Nat) : Int)] (by simp)
  have zero : mn = 0 ↔ (la.c.1 = [] ∨ la.c.2 = [] ∨ lb.c.1 = [] ∨ lb.c.2 = []) := by
    have nn : ∀ {L : List Fm}, ((L.length : Nat) : Int) = 0 ↔ L = [] := fun {L} => by rw [← List.length_eq_zero_iff]; omega
    rw [← nn, ← nn, ← nn, ← nn]
    simp only [List.mem_cons, List.not_mem_nil, or_false] at mn1 mn2
    have q1 := mn2 _ (.inl rfl)
    have q2 := mn2 _ (.inr (.inl rfl))
    have q3 := mn2 _ (.inr (.inr (.inl rfl)))
    have q4 := mn2 _ (.inr (.inr (.inr rfl)))
    omega
  have i0 : ∀ {ρ : Rho} {i : Nat} {c : Cl}, ρ[i]? = some (some c.toD) → PuE K (tOp (rIxT K) (tVar i) (tC (.int 0))) ρ (lsD c.1) := fun {ρ i c} h => pu_ixT (pu_cl (pu_var h)) (pu_int 0) (cix0 c)
  have i1 : ∀ {ρ : Rho} {i : Nat} {c : Cl}, ρ[i]? = some (some c.toD) → PuE K (tOp (rIxT K) (tVar i) (tC (.int 1))) ρ (lsD c.2) := fun {ρ i c} h => pu_ixT (pu_cl (pu_var h)) (pu_int 1) (cix1 c)
  have ln : ∀ {ρ : Rho} {te : TE} {L : List Fm}, PuE K te ρ (lsD L) → PuE K (tCB (rLn K) (tCons te tNil)) ρ (.int ((L.length : Nat) : Int)) := fun {ρ te L} h => (pu_len_l h).cast (by rw [List.length_map])
  have test : PuT K (tOr (tTest (tOp (rI0 fun i j => .bl (decide (i < j))) (tVar 7) (tC (.int 1)))) (tTest (tOp rEq (tCB rMin4 (tCons (tCB (rLn K) (tCons (tOp (rIxT K) (tVar 5) (tC (.int 0))) tNil)) (tCons (tCB (rLn K) (tCons (tOp (rIxT K) (tVar 5) (tC (.int 1))) tNil)) (tCons (tCB (rLn K) (tCons (tOp (rIxT K) (tVar 6) (tC (.int 0))) tNil)) (tCons (tCB (rLn K) (tCons (tOp (rIxT K) (tVar 6) (tC (.int 1))) tNil)) tNil))))) (tC (.int 0)))))
      (seen (rhoG a ls cell base (cell / 10) A0 la.c lb.c (cell % 10) none none none none)) (decide (cell % 10 < 1 ∨ (la.c.1 = [] ∨ la.c.2 = [] ∨ lb.c.1 = [] ∨ lb.c.2 = []))) :=
    (pu_tOr (pu_tTest (pu_lt (pu_var rfl) (pu_int 1))) fun _ => pu_tTest (pu_eqI (pu_min4 (ln (i0 (c := la.c) rfl)) (ln (i1 (c := la.c) rfl)) (ln (i0 (c := lb.c) rfl)) (ln (i1 (c := lb.c) rfl)) mn1 mn2) (pu_int 0))).cast (by
      rw [Bool.eq_iff_iff, Bool.or_eq_true, decide_eq_true_eq, decide_eq_true_eq, decide_eq_true_eq, zero])
  by_cases c1 : cell % 10 < 1 ∨ (la.c.1 = [] ∨ la.c.2 = [] ∨ lb.c.1 = [] ∨ lb.c.2 = [])
  · rw [if_pos c1]
    have g2 := formN_good 2 (cell / 10 * 48271 % 65537) base
    have d2 := formN_dep 2 (cell / 10 * 48271 % 65537) base
    have d1 := formN_dep 1 (cell / 10 * 16807 % 65539) base
    have s2 : Sh [formN 2 (cell / 10 * 48271 % 65537) base] := sh_one (by omega)
    have r1 := mod2 (cell / 3)
    have r2 := mod2 (cell / 2)
    have r3 := Int.emod_nonneg (cell / 3) (by decide : (2 : Int) ≠ 0)
    have r4 := Int.emod_nonneg (cell / 2) (by decide : (2 : Int) ≠ 0)
    have rl : ∀ (g : Fm) (k : Int), k.toNat ≤ 1 → (repB g k).length ≤ 1000 := fun g k h => by unfold repB; rw [List.length_replicate]; omega
    have rs : ∀ {g : Fm} (k : Int), g.dep ≤ 60 → Sh (repB g k) := fun {g} k h x hx => by rw [List.eq_of_mem_replicate hx]; exact h
    have rp : ∀ {ρ : Rho} {te tb : TE} {g : Fm} {k : Int}, PuE K te ρ (lsD [g]) → PuE K tb ρ (.int k) → 0 ≤ k → k.toNat ≤ 1 → PuE K (tOp (rRepL K) te tb) ρ (lsD (repB g k)) := fun {ρ te tb g k} h h2 k0 k1 => by
      refine (pu_rep (ds := [g.toD]) h h2 (by omega) (by omega) ?_).cast ?_
      · show 1 * k.toNat ≤ _
        omega
      · show PyData.list _ = .list _
        rw [rep_map]
    refine ⟨rhoG a (ls ++ [⟨(once ([formN 2 (cell / 10 * 48271 % 65537) base] ++ repB (formN 1 (cell / 10 * 16807 % 65539) base) (cell / 3 % 2)), once (repB (formN 1 (cell / 10 * 16807 % 65539) base) (cell / 2 % 2) ++ [formN 2 (cell / 10 * 48271 % 65537) base])), .fm .same (formN 2 (cell / 10 * 48271 % 65537) base), []⟩]) cell base (cell / 10) A0 la.c lb.c (cell % 10)
      (some (.d (formN 2 (cell / 10 * 48271 % 65537) base).toD)) (some (.d (lsD [formN 1 (cell / 10 * 16807 % 65539) base]))) (some (.d (Cl.toD (once ([formN 2 (cell / 10 * 48271 % 65537) base] ++ repB (formN 1 (cell / 10 * 16807 % 65539) base) (cell / 3 % 2)), once (repB (formN 1 (cell / 10 * 16807 % 65539) base) (cell / 2 % 2) ++ [formN 2 (cell / 10 * 48271 % 65537) base]))))) none, 0, ?_, rfl⟩
    refine pre (puo_if (test.cast (decide_eq_true c1)) (fun _ => ?_) fun z => nomatch z)
    refine puo_set (d := (formN 2 (cell / 10 * 48271 % 65537) base).toD) (pu_call (pu_cons (pu_mod (pu_mul (pu_var rfl) (pu_int 48271) (cmul48 _)) (pu_int 65537) (by decide)) (pu_cons (pu_int 2) (pu_cons (pu_var rfl) pu_nil))) rfl ⟨_, base, 2, rfl, by decide, rfl⟩) ?_
    refine puo_set (d := lsD [formN 1 (cell / 10 * 16807 % 65539) base]) (pu_l1 (pu_call (pu_cons (pu_mod (pu_mul (pu_var rfl) (pu_int 16807) (cmul16 _)) (pu_int 65539) (by decide)) (pu_cons (pu_int 1) (pu_cons (pu_var rfl) pu_nil))) rfl ⟨_, base, 1, rfl, by decide, rfl⟩)) ?_
    generalize formN 2 (cell / 10 * 48271 % 65537) base = g at g2 d2 s2
    generalize formN 1 (cell / 10 * 16807 % 65539) base = k at d1
    refine puo_set (d := Cl.toD (once ([g] ++ repB k (cell / 3 % 2)), once (repB k (cell / 2 % 2) ++ [g]))) (pu_c (pu_with (pu_l1 (pu_var rfl)) (rp (pu_var rfl) (pu_mod (pu_div 3 (pu_var rfl) (cdiv3 _)) (pu_int 2) (by decide)) r3 r1) s2 (rs _ (by omega)) (one1 _) (rl _ _ r1)) (pu_with (rp (pu_var rfl) (pu_mod (pu_div 2 (pu_var rfl) (cdiv2 _)) (pu_int 2) (by decide)) r4 r2) (pu_l1 (pu_var rfl)) (rs _ (by omega)) s2 (rl _ _ r2) (one1 _))) ?_
    have ap := puo_appendE (K := K) (ρ := rhoG a ls cell base (cell / 10) A0 la.c lb.c (cell % 10) (some (.d g.toD)) (some (.d (lsD [k]))) (some (.d (Cl.toD (once ([g] ++ repB k (cell / 3 % 2)), once (repB k (cell / 2 % 2) ++ [g]))))) none) (i := 0) (y0 := .m a (lnsD ls)) (ds := lnsD ls) (d := Ln.toD ⟨(once ([g] ++ repB k (cell / 3 % 2)), once (repB k (cell / 2 % 2) ++ [g])), .fm .same g, []⟩) rfl rfl (by rw [lnl]; omega)
      (pu_tup (pu_cons (pu_var (i := 10) rfl) (pu_cons (pu_tup (pu_cons (pu_str ("same" : Str)) (pu_cons (pu_var (i := 8) rfl) pu_nil)) (by simp)) (pu_cons (pu_lst pu_nil (by simp)) pu_nil))) (by simp))
    refine ap.cast (congrArg OutO.nx ?_)
    show (some (Ent.m a (lnsD ls ++ [Ln.toD _])) :: _ : RhoO) = some (Ent.m a (lnsD (ls ++ [_]))) :: _
    have ec : ∀ (x : Ln), lnsD (ls ++ [x]) = lnsD ls ++ [x.toD] := fun x => by unfold lnsD; rw [List.map_append]; rfl
    rw [ec]
  rw [if_neg c1]
  obtain ⟨_, c1'⟩ := not_or.mp c1
  rw [not_or, not_or, not_or] at c1'
  obtain ⟨v1, v2, v3, v4⟩ := c1'
  have la24 := len oA
  have lb24 := len oB
  have t2 : PuT K (tTest (tOp (rI0 fun i j => .bl (decide (i < j))) (tVar 7) (tC (.int 7)))) (seen (rhoG a ls cell base (cell / 10) A0 la.c lb.c (cell % 10) none none none none)) (decide (cell % 10 < 7)) := pu_tTest (pu_lt (pu_var rfl) (pu_int 7))
  have fin : ∀ (x : Cl × Wd × Fm) (us : List Nat) (tu : TE), Made x.1 x.2.1 x.2.2 → (∀ u ∈ us, u < ls.length) → us.length ≤ 2 → (putIn x.2.1 x.2.2).length = us.length →
      PuX K tu (rhoG a ls cell base (cell / 10) A0 la.c lb.c (cell % 10) none none none (some (.d (mkD x)))) (intsD (us.map fun (u : Nat) => (u : Int))) →
      PuO K (tDrop (tCall (spMut K 3 gRest) [] E0 (tCons (tVar 0) (tCons (tOp (rIxT K) (tVar 11) (tC (.int 0))) (tCons (tOp (rIxT K) (tVar 11) (tC (.int 1))) (tCons tu tNil)))))) (rhoG a ls cell base (cell / 10) A0 la.c lb.c (cell % 10) none none none (some (.d (mkD x))))
        (.nx (rhoG a (restN ls x.1 x.2.1 x.2.2 us) cell base (cell / 10) A0 la.c lb.c (cell % 10) none none none (some (.d (mkD x))))) := fun x us tu md ub ul pl hu =>
    puo_mut (i := 0) (y0 := .m a (lnsD ls)) (ds := lnsD ls) (es := [x.1.toD, (Ru.fm x.2.1 x.2.2).toD, intsD (us.map fun (u : Nat) => (u : Int))]) rfl rfl (px_cons (px_of (pu_ixT (ds := [x.1.toD, (Ru.fm x.2.1 x.2.2).toD]) (pu_var rfl) (pu_int 0) (tix0 _ _ _))) (px_cons (px_of (pu_ixT (ds := [x.1.toD, (Ru.fm x.2.1 x.2.2).toD]) (pu_var rfl) (pu_int 1) (tix1 _ _ _))) (px_cons hu px_nil))) rfl
      ⟨ls, x.1, x.2.1, x.2.2, us, rfl, rfl, lo, md, ub, ul, pl, by omega, rfl⟩
  by_cases c2 : cell % 10 < 7
  · rw [if_pos c2]
    have md := one_made oA.gc.1 oA.gc.2 v1 v2 la24.1 la24.2 (cell % 10) (cell / 10)
    refine ⟨rhoG a (restN ls (oneN la.c.1 la.c.2 (cell % 10) (cell / 10)).1 (oneN la.c.1 la.c.2 (cell % 10) (cell / 10)).2.1 (oneN la.c.1 la.c.2 (cell % 10) (cell / 10)).2.2 [A0]) cell base (cell / 10) A0 la.c lb.c (cell % 10) none none none (some (.d (mkD (oneN la.c.1 la.c.2 (cell % 10) (cell / 10))))), 0, pre (puo_if (test.cast (decide_eq_false c1)) (fun z => nomatch z) fun _ => puo_if (t2.cast (decide_eq_true c2)) (fun _ => ?_) fun z => nomatch z), ?_⟩
    · exact puo_set (d := mkD (oneN la.c.1 la.c.2 (cell % 10) (cell / 10))) (pu_call (pu_cons (i0 (c := la.c) rfl) (pu_cons (i1 (c := la.c) rfl) (pu_cons (pu_var rfl) (pu_cons (pu_var rfl) pu_nil)))) rfl ⟨la.c.1, la.c.2, _, _, rfl, oA.gc.1, oA.gc.2, v1, v2, la24.1, la24.2, rfl⟩)
        (fin _ [A0] _ md (fun u hu => by rw [List.mem_singleton.mp hu]; exact lA) (by decide : 1 ≤ 2) (one_len _ _ _ _) (px_lst (px_cons (px_of (pu_var rfl)) px_nil) (by simp)))
    · rfl
  · rw [if_neg c2]
    have md := two_made oA.gc oB.gc v1 v2 v3 v4 la24.1 la24.2 lb24.1 lb24.2 (cell % 10) (cell / 10)
    refine ⟨rhoG a (restN ls (twoN la.c lb.c (cell % 10) (cell / 10)).1 (twoN la.c lb.c (cell % 10) (cell / 10)).2.1 (twoN la.c lb.c (cell % 10) (cell / 10)).2.2 [A0, B0]) cell base (cell / 10) A0 la.c lb.c (cell % 10) none none none (some (.d (mkD (twoN la.c lb.c (cell % 10) (cell / 10))))), 0, pre (puo_if (test.cast (decide_eq_false c1)) (fun z => nomatch z) fun _ => puo_if (t2.cast (decide_eq_false c2)) (fun z => nomatch z) fun _ => ?_), ?_⟩
    · refine puo_set (d := mkD (twoN la.c lb.c (cell % 10) (cell / 10))) (pu_call (pu_cons (pu_var rfl) (pu_cons (pu_var rfl) (pu_cons (pu_var rfl) (pu_cons (pu_var rfl) pu_nil)))) rfl ⟨la.c, lb.c, _, _, rfl, oA.gc, oB.gc, v1, v2, v3, v4, la24.1, la24.2, lb24.1, lb24.2, rfl⟩)
        (fin _ [A0, B0] _ md (fun u hu => by rcases List.mem_cons.mp hu with rfl | hu; exact lA; rw [List.mem_singleton.mp hu]; exact lB) (by decide : 2 ≤ 2) (two_len _ _ _ _) (px_lst (px_cons (px_of (pu_var rfl)) (px_cons (px_flat ((pu_mod (pu_div 7 (pu_var rfl) (cdiv7 _)) (pu_len_l (ds := lnsD ls) (pu_var rfl)) (by rw [lnl]; omega)).cast (by rw [lnl]; show _ = PyData.int (B0 : Int); rw [eB])) rfl) px_nil)) (by simp)))
    · rfl
theorem scChain : FnScope ["_law_cells", "_law_base", "_law_f", "_law_lines", "_law_cell"] ["_law_cells", "_law_base"] (defScope sChain) := ⟨rfl, rfl, rfl, by decide +kernel, rfl, by decide +kernel, by decide +kernel⟩
theorem ok_chain (D : Df K mg "_law_chain" sChain ["_law_cells", "_law_base"] f fd)
    (h_law_formula : Has P w K mg base 5 "_law_formula" ["_law_cell", "_law_deep_here", "_law_base"] (spPu K 3 (gFormula 3))) (h_law_grown : Has P w K mg base 17 "_law_grown" ["_law_lines", "_law_cell", "_law_base"] (spMut K 2 gGrown)) : FnOk P w K mg base CX0 18 f fd ["_law_cells", "_law_base"] (spOwn K 2 gChain) := by
  refine ok_own D scChain fun cdv A outer s H E hr => ?_
  refine ⟨_, (pss_cons (ps_set (i := 2) scChain.nd rfl (by first | exact Or.inl rfl | exact Or.inr rfl) (pe_callH h_law_formula (hr.mono (by omega)) (by rfl) (pa_cons (pe_ix (r := rIxL K) ix_list (pv 0) pe_int (fun _ _ => rfl)) (pa_cons pe_int (pa_cons (pv 1) pa_nil)))))
    (pss_cons (ps_set (i := 3) scChain.nd rfl (by first | exact Or.inl rfl | exact Or.inr rfl) (pe_lst (pa_cons (pe_tup (pa_cons (pe_tup (pa_cons (pe_lst (pa_cons (pv 2) pa_nil)) (pa_cons (pe_lst (pa_cons (pv 2) pa_nil)) pa_nil))) (pa_cons (pe_tup (pa_cons pe_str (pa_cons (pv 2) pa_nil))) (pa_cons (pe_lst pa_nil) pa_nil)))) pa_nil)))
    (pss_cons (ps_for PassesOwn.never rfl (pi_list (pv 0)) (pg_name (i := 4) scChain.nd rfl (by first | exact Or.inl rfl | exact Or.inr rfl)) (pss_one (ps_expr (pe_callH h_law_grown (hr.mono (by omega)) (by rfl) (pa_cons (pv 3) (pa_cons (pe_op op_mod (pe_op op_mul (pv 4) pe_int) pe_int) (pa_cons (pv 1) pa_nil)))))))
    (pss_one (ps_ret (pv 3)))))), ?_⟩
  rintro ds es hl ⟨cells, base, rfl, ne, lc, rfl⟩
  obtain ⟨c0, cs, rfl⟩ : ∃ c cs, cells = c :: cs := by
    cases cells with
    | nil => exact absurd rfl ne
    | cons c cs => exact ⟨c, cs, rfl⟩
  refine puo_set (d := (formN 2 c0 base).toD) (pu_call (pu_cons (pu_ixI (ns := c0 :: cs) (k := 0) (z := c0) (pu_var rfl) (pu_int 0) (atI_nat (j := 0) rfl)) (pu_cons (pu_int 2) (pu_cons (pu_var rfl) pu_nil))) rfl ⟨c0, base, 2, rfl, by decide, rfl⟩) ?_
  refine puo_new (i := 3) (ds := lnsD (first0 (formN 2 c0 base))) (pu_cons (pu_tup (pu_cons (pu_c (pu_l1 (pu_var rfl)) (pu_l1 (pu_var rfl))) (pu_cons (pu_tup (pu_cons (pu_str ("same" : Str)) (pu_cons (pu_var rfl) pu_nil)) (by simp)) (pu_cons (pu_lst pu_nil (by simp)) pu_nil))) (by simp)) pu_nil) (by show 1 ≤ _; decide) ?_
  have fo := fun (n : Nat) => fold_ok base ((c0 :: cs).take n) (first0 (formN 2 c0 base)) (first_ok c0 base) (by simp [first0])
  refine puo_seq (ρ' := [some (.d (intsD (c0 :: cs))), some (.d (.int base)), some (.d (formN 2 c0 base).toD), some (.o (lnsD (chainN (c0 :: cs) base))), none]) ?_ (puo_retO rfl)
  refine puo_for (k := (c0 :: cs).length) (xs := c0 :: cs) (td := PyData.int) (fun i => [some (.d (intsD (c0 :: cs))), some (.d (.int base)), some (.d (formN 2 c0 base).toD), some (.o (lnsD (((c0 :: cs).take i).foldl (fun ls cell => grownN ls (cell * 48271 % 1000003) base) (first0 (formN 2 c0 base))))), none])
    (pui_list (pu_var rfl)) rfl (Nat.le_refl _) (fun i x hi hx => ?_) (.inl ⟨rfl, ?_⟩)
  · refine ⟨_, pgo_name 4, .inl ?_⟩
    obtain ⟨a, b, d⟩ := fo i
    have tl : ((c0 :: cs).take i).length ≤ 40 := by rw [List.length_take]; omega
    have fl : (first0 (formN 2 c0 base)).length = 1 := rfl
    have e : ((c0 :: cs).take (i + 1)).foldl (fun ls cell => grownN ls (cell * 48271 % 1000003) base) (first0 (formN 2 c0 base)) = grownN (((c0 :: cs).take i).foldl (fun ls cell => grownN ls (cell * 48271 % 1000003) base) (first0 (formN 2 c0 base))) (x * 48271 % 1000003) base := by
      rw [List.take_succ, hx, List.foldl_append]
      rfl
    rw [e]
    generalize ((c0 :: cs).take i).foldl (fun ls cell => grownN ls (cell * 48271 % 1000003) base) (first0 (formN 2 c0 base)) = L at a b d
    exact puo_forget 4 (puo_mut (i := 3) (y0 := .o (lnsD L)) (ds := lnsD L) (es := [.int (x * 48271 % 1000003), .int base]) rfl rfl (px_cons (px_of (pu_mod (pu_mul (pu_var rfl) (pu_int 48271) (cmul48 _)) (pu_int 1000003) (by decide))) (px_cons (px_of (pu_var rfl)) px_nil)) rfl ⟨L, _, base, rfl, rfl, a, b, by omega, rfl⟩)
  · rw [List.take_length]
    rfl
end
end Lm
set_option Elab.async false
set_option linter.all false
set_option maxRecDepth 100000
set_option maxHeartbeats 400000
/-! k05: lines spoilt: mathematics -/
namespace Lm
open PySem PySem.Spec PyProof.Rows L2
def Ru.wd : Ru → Str
  | .fm w _ => w.txt
  | .more _ => "more"
def Ru.arg : Ru → PyData
  | .fm _ f => f.toD
  | .more m => m.toD
theorem ru_toD (r : Ru) : r.toD = .tuple [.str r.wd, r.arg] := by cases r <;> rfl
def Ru.isMore : Ru → Bool
  | .more _ => true
  | _ => false
/-! ### uses -/
def oddU (at_ more : Int) : List PyData := [.int at_, .int (at_ + 1), .int (-1), .bool true, .str ("0" : Str), .int (more % 40), .int (10 ^ 20)]
def spUses (us : List Int) (at_ cell more : Int) : PyData :=
  if us ≠ [] ∧ 0 < cell % 3 then .list ((us.map PyData.int).take (more % (us.length : Int)).toNat ++ [(oddU at_ more).getD (cell / 3 % 7).toNat .none] ++ (us.map PyData.int).drop ((more % (us.length : Int)).toNat + 1))
  else if cell / 3 % 3 = 0 then .tuple (us.map PyData.int)
  else if cell / 3 % 3 = 1 then intsD (us ++ [more % (at_ + 1)])
  else intsD (us.drop 1)
/-! ### claims -/
def lsF (L : List Fm) : PyData := .list (L.map Fm.toD)
def sg100 : PyData := .tuple [.str ("sign" : Str), .int 100]
def notD : PyData := .tuple [.str ("not" : Str)]
def oddF : List PyData := [sg100, notD, .int 5]
def spClaim (c : Cl) (cell more base : Int) : PyData :=
  if cell % 4 = 0 then .tuple [lsF (c.1 ++ [formN 1 more base]), lsF c.2]
  else if cell % 4 = 1 then .tuple [lsF c.1, lsF (c.2.drop 1)]
  else if cell % 4 = 2 then .tuple [lsF c.1, lsF (c.2 ++ List.replicate 61 (.sg (base % 100)))]
  else .tuple [.list ((c.1.map Fm.toD).take (more % 3).toNat ++ [oddF.getD (cell / 4 % 3).toNat .none]), lsF c.2]
/-! ### rules -/
def oddRu (r : Ru) : List PyData := [.tuple [.str r.wd], .tuple [.str r.wd, r.arg, r.arg], .list [.str r.wd, r.arg], .none, .tuple [.str ("more" : Str), .tuple [.list []]], .tuple [.str ("more" : Str), .int 5], .str r.wd]
def spRule (r : Ru) (more : Int) : PyData := (oddRu r).getD (more % 7).toNat .none
def wordsR : List Str := ["same", "left", "right", "lemma", "Same"]
/-! ### lines -/
/-- [[c, r, u], (c, r), None, (c, r, u, 0)][more % 4] -/
def oddLn2 (l : Ln) : List PyData := [.list [l.c.toD, l.r.toD, intsD l.u], .tuple [l.c.toD, l.r.toD], .none, .tuple [l.c.toD, l.r.toD, intsD l.u, .int 0]]
def spoiltD (l : Ln) (at_ cell base : Int) : PyData :=
  let more := cell / 60
  if cell / 5 % 12 = 11 then .tuple [l.c.toD, spRule l.r more, intsD l.u]
  else if cell / 5 % 12 = 10 then .tuple [l.c.toD, (Ru.more l.c).toD, intsD [at_]]
  else if cell % 5 = 0 then .tuple [l.c.toD, l.r.toD, spUses l.u at_ (cell / 5) more]
  else if cell % 5 = 1 then .tuple [spClaim l.c (cell / 5) more base, l.r.toD, intsD l.u]
  else if cell % 5 = 2 ∧ l.r.isMore = false then .tuple [l.c.toD, .tuple [.str (wordsR.getD (more % 5).toNat Str.empty), l.r.arg], intsD l.u]
  else if cell % 5 = 3 ∧ l.r.isMore = false then .tuple [l.c.toD, .tuple [.str l.r.wd, (formN 1 (more * 48271 % 65537) base).toD], intsD l.u]
  else (oddLn2 l).getD (more % 4).toNat .none
def dbl (l : Ln) : Ln := ⟨(l.c.1 ++ l.c.1.take 1, l.c.2.drop (l.c.2.length - 1) ++ l.c.2), l.r, l.u⟩
/-! ### the shapes -/
def Ru.kept60 : Ru → Prop
  | .fm _ f => f.good ∧ f.dep ≤ 12
  | .more m => GdC m ∧ wordsC m ≤ 60
def ItemD (d : PyData) : Prop := (∃ f : Fm, f.good ∧ f.dep ≤ 12 ∧ d = f.toD) ∨ d ∈ oddF
def UseD (d : PyData) : Prop := (∃ i : Int, d = .int i) ∨ d = .bool true ∨ d = .str ("0" : Str)
inductive RuleD : PyData → Prop where
  | ok {r : Ru} (h : r.kept60) : RuleD r.toD
  | cap {f : Fm} (h : f.good) (k : f.dep ≤ 12) : RuleD (.tuple [.str ("Same" : Str), f.toD])
  | odd {r : Ru} {d : PyData} (h : r.kept60) (k : d ∈ oddRu r) : RuleD d
inductive UsesD : PyData → Prop where
  | ls {ns : List PyData} (h : ∀ d ∈ ns, UseD d) (k : ns.length ≤ 100) : UsesD (.list ns)
  | tp {us : List Int} (k : us.length ≤ 100) : UsesD (.tuple (us.map PyData.int))
inductive LineD : PyData → Prop where
  | mid {ds es : List PyData} {r n : PyData} (h1 : ∀ d ∈ ds, ItemD d) (h2 : ∀ d ∈ es, ItemD d) (k1 : ds.length ≤ 200) (k2 : es.length ≤ 200) (hr : RuleD r) (hn : UsesD n) : LineD (.tuple [.tuple [.list ds, .list es], r, n])
  | odd {l : Ln} {d : PyData} (h : LnOk l) (k : d ∈ oddLn2 l) : LineD d
theorem getD_mem {α : Type} {l : List α} {i : Nat} {d : α} (h : i < l.length) : l.getD i d ∈ l := by
  rw [List.getD_eq_getElem?_getD, List.getElem?_eq_getElem h]
  exact List.getElem_mem h
theorem toNat_lt (z : Int) {n : Nat} (h : 0 < n) : (z % (n : Int)).toNat < n := by
  have := Int.emod_lt_of_pos z (show (0 : Int) < n by omega)
  have := Int.emod_nonneg z (show (n : Int) ≠ 0 by omega)
  omega
theorem kept60_of {r : Ru} (h : r.kept) : r.kept60 := by
  cases r with
  | fm w f => exact h
  | more m => exact ⟨h.1, Nat.le_trans h.2 (by decide)⟩
theorem items_fms {L : List Fm} (h : Gd L) : ∀ d ∈ L.map Fm.toD, ItemD d := fun d hd => by
  obtain ⟨f, hf, rfl⟩ := List.mem_map.mp hd
  exact .inl ⟨f, (h f hf).1, (h f hf).2, rfl⟩
theorem uses_ints (us : List Int) : ∀ d ∈ us.map PyData.int, UseD d := fun d hd => by
  obtain ⟨i, _, rfl⟩ := List.mem_map.mp hd
  exact .inl ⟨i, rfl⟩
theorem len24 {c : Cl} (h : wordsC c ≤ 60) : c.1.length ≤ 60 ∧ c.2.length ≤ 60 := by
  have h : wordsS c.1 + wordsS c.2 ≤ 60 := h
  have := words_len c.1
  have := words_len c.2
  omega
theorem line_ok {l : Ln} (gc : GdC l.c) (wc : wordsC l.c ≤ 60) (rk : l.r.kept60) (ul : l.u.length ≤ 100) : LineD l.toD := by
  have := len24 wc
  exact .mid (items_fms gc.1) (items_fms gc.2) (by rw [List.length_map]; omega) (by rw [List.length_map]; omega) (.ok rk) (.ls (uses_ints _) (by rw [List.length_map]; exact ul))
theorem spUses_ok (us : List Int) (at_ cell more : Int) (ul : us.length ≤ 90) : UsesD (spUses us at_ cell more) := by
  unfold spUses
  split
  · rename_i h
    refine .ls (fun d hd => ?_) ?_
    · rcases List.mem_append.mp hd with hd | hd
      · rcases List.mem_append.mp hd with hd | hd
        · exact uses_ints us d (List.mem_of_mem_take hd)
        · rw [List.mem_singleton.mp hd]
          have m : (oddU at_ more).getD (cell / 3 % 7).toNat .none ∈ oddU at_ more := getD_mem (toNat_lt (n := 7) _ (by decide))
          simp only [oddU, List.mem_cons, List.not_mem_nil, or_false] at m
          rcases m with e | e | e | e | e | e | e <;> (simp only [oddU]; rw [e])
          · exact .inl ⟨_, rfl⟩
          · exact .inl ⟨_, rfl⟩
          · exact .inl ⟨_, rfl⟩
          · exact .inr (.inl rfl)
          · exact .inr (.inr rfl)
          · exact .inl ⟨_, rfl⟩
          · exact .inl ⟨_, rfl⟩
      · exact uses_ints us d (List.mem_of_mem_drop hd)
    · rw [List.length_append, List.length_append, List.length_take, List.length_drop, List.length_map, List.length_singleton]
      omega
  split
  · exact .tp (by omega)
  split
  · exact .ls (uses_ints _) (by rw [List.length_map, List.length_append, List.length_singleton]; omega)
  · exact .ls (uses_ints _) (by rw [List.length_map, List.length_drop]; omega)
theorem spoilt_ok {l : Ln} (h : LnOk l) (ul : l.u.length ≤ 90) (at_ cell base : Int) : LineD (spoiltD l at_ cell base) := by
  have lc := len24 (Nat.le_trans h.wc (by decide))
  have i1 := items_fms h.gc.1
  have i2 := items_fms h.gc.2
  have k60 := kept60_of h.rk
  have l1 : (l.c.1.map Fm.toD).length ≤ 200 := by rw [List.length_map]; omega
  have l2 : (l.c.2.map Fm.toD).length ≤ 200 := by rw [List.length_map]; omega
  have un : UsesD (intsD l.u) := .ls (uses_ints _) (by rw [List.length_map]; omega)
  unfold spoiltD
  dsimp only
  split
  · exact .mid i1 i2 l1 l2 (.odd k60 (getD_mem (toNat_lt (n := 7) _ (by decide)))) un
  split
  · exact .mid i1 i2 l1 l2 (.ok (r := .more l.c) ⟨h.gc, Nat.le_trans h.wc (by decide)⟩) (.ls (uses_ints [at_]) (by show 1 ≤ 100; decide))
  split
  · exact .mid i1 i2 l1 l2 (.ok k60) (spUses_ok _ _ _ _ ul)
  split
  · unfold spClaim
    have g1 := formN_good 1 (cell / 60) base
    have d1 := formN_dep 1 (cell / 60) base
    split
    · refine .mid (ds := (l.c.1 ++ [formN 1 (cell / 60) base]).map Fm.toD) (items_fms (gd_app h.gc.1 (gd_one g1 (by omega)))) i2 ?_ l2 (.ok k60) un
      rw [List.length_map, List.length_append, List.length_singleton]; omega
    split
    · exact .mid i1 (es := (l.c.2.drop 1).map Fm.toD) (items_fms fun f hf => h.gc.2 f (List.mem_of_mem_drop hf)) l1 (by rw [List.length_map, List.length_drop]; omega) (.ok k60) un
    split
    · refine .mid i1 (es := (l.c.2 ++ List.replicate 61 (Fm.sg (base % 100))).map Fm.toD) (items_fms (gd_app h.gc.2 fun f hf => ?_)) l1 ?_ (.ok k60) un
      · rw [List.eq_of_mem_replicate hf]
        exact ⟨⟨Int.emod_nonneg _ (by decide), by have := Int.emod_lt_of_pos base (by decide : (0 : Int) < 100); omega⟩, by show 1 ≤ 12; decide⟩
      · rw [List.length_map, List.length_append, List.length_replicate]; omega
    · refine .mid (ds := (l.c.1.map Fm.toD).take (cell / 60 % 3).toNat ++ [oddF.getD (cell / 5 / 4 % 3).toNat .none]) (fun d hd => ?_) i2 ?_ l2 (.ok k60) un
      · rcases List.mem_append.mp hd with hd | hd
        · exact i1 d (List.mem_of_mem_take hd)
        · rw [List.mem_singleton.mp hd]
          exact .inr (getD_mem (toNat_lt (n := 3) _ (by decide)))
      · rw [List.length_append, List.length_take, List.length_singleton]; omega
  split
  · rename_i c
    obtain ⟨w, f, e⟩ : ∃ w f, l.r = .fm w f := by
      cases hr : l.r with
      | fm w f => exact ⟨w, f, rfl⟩
      | more m => rw [hr] at c; exact absurd c.2 (by intro z; cases z)
    have k : f.good ∧ f.dep ≤ 12 := by rw [e] at k60; exact k60
    rw [e]
    have m : wordsR.getD (cell / 60 % 5).toNat Str.empty ∈ wordsR := getD_mem (toNat_lt (n := 5) _ (by decide))
    generalize wordsR.getD (cell / 60 % 5).toNat Str.empty = x at m
    simp only [wordsR, List.mem_cons, List.not_mem_nil, or_false] at m
    rcases m with rfl | rfl | rfl | rfl | rfl
    · exact .mid i1 i2 l1 l2 (.ok (r := .fm .same f) k) un
    · exact .mid i1 i2 l1 l2 (.ok (r := .fm .left f) k) un
    · exact .mid i1 i2 l1 l2 (.ok (r := .fm .right f) k) un
    · exact .mid i1 i2 l1 l2 (.ok (r := .fm .lem f) k) un
    · exact .mid i1 i2 l1 l2 (.cap k.1 k.2) un
  split
  · rename_i c
    obtain ⟨w, f, e⟩ : ∃ w f, l.r = .fm w f := by
      cases hr : l.r with
      | fm w f => exact ⟨w, f, rfl⟩
      | more m => rw [hr] at c; exact absurd c.2 (by intro z; cases z)
    have g1 := formN_good 1 (cell / 60 * 48271 % 65537) base
    have d1 := formN_dep 1 (cell / 60 * 48271 % 65537) base
    rw [e]
    exact .mid i1 i2 l1 l2 (.ok (r := .fm w (formN 1 (cell / 60 * 48271 % 65537) base)) ⟨g1, by omega⟩) un
  · exact .odd h (getD_mem (toNat_lt (n := 4) _ (by decide)))
end Lm
set_option Elab.async false
set_option linter.all false
set_option maxRecDepth 100000
set_option maxHeartbeats 400000
/-! defs that tell, or raise -/
namespace Lm
open PySem PySem.Spec PyProof.Rows L2
def spPuN (K : PySem.W.Frag) (m : Nat) (g : List PyData → PyData → Prop) (bad : List PyData → Prop) (C : Addr) : Sp := fun vs H Q E => ∃ (M : Addr → Bool) (ds : List PyData), Hid M H ∧ vs.length = m ∧ DpAll K (vis M H) vs ds ∧
  ((∃ d, g ds d ∧ ∀ v H', Same H H' → Dp K (vis M H') v d → Q v H') ∨ (bad ds ∧ ∀ H', Same H H' → E (.ref C) none H'))
section
variable {P : Program} {w : World} {K : PySem.W.Frag} {mg : Str → Option Value} {base : Heap} {f : Addr} {fd : FuncData}
theorem calm_puN {k m : Nat} {x : Str} {ps : List Str} {g : List PyData → PyData → Prop} {bad : List PyData → Prop} {C : Addr} (h : HasN P w K mg base k x ps (spPuN K m g bad C)) : Has P w K mg base k x ps (spPu K m g) :=
  h.calm fun vs H Q E ⟨M, ds, d, hid, hl, hd, hg, q⟩ => ⟨M, ds, hid, hl, hd, .inl ⟨d, hg, q⟩⟩
end
end Lm
set_option Elab.async false
set_option linter.all false
set_option maxRecDepth 100000
set_option maxHeartbeats 1000000
/-! more pure readings -/
namespace Lm
open PySem PySem.Spec PyProof.Rows L2
/-- the slots said anew -/
theorem pus_at {K : PySem.W.Frag} {t : TS} {ρ ρ' : Rho} {o : Out} (e : ρ = ρ') (h : PuS K t ρ' o) : PuS K t ρ o := e ▸ h
theorem cutLast (xs : List V) : cutV xs (some (-1)) none = xs.drop (xs.length - 1) := by
  unfold cutV
  have e2 : HT.sIx xs.length xs.length none = xs.length := rfl
  have e1 : HT.sIx xs.length 0 (some (-1)) = xs.length - 1 := by
    show (if (-1 : Int) < 0 then (-1 + (xs.length : Int)).toNat else min (-1 : Int).toNat xs.length) = _
    rw [if_pos (by decide)]
    omega
  rw [e2, e1, List.take_of_length_le (by rw [List.length_drop]; omega)]
theorem cutMid (xs : List V) (a b : Nat) (h : a ≤ b) : cutV xs (some (a : Int)) (some (b : Int)) = (xs.take b).drop a := by
  unfold cutV
  rw [HT.sIx_nat, HT.sIx_nat, List.drop_take]
  by_cases ha : a ≤ xs.length
  · rw [Nat.min_eq_left ha]
    by_cases hb : b ≤ xs.length
    · rw [Nat.min_eq_left hb]
    · rw [Nat.min_eq_right (by omega), List.take_of_length_le (by rw [List.length_drop]; omega), List.take_of_length_le (by rw [List.length_drop]; omega)]
  · rw [List.drop_eq_nil_of_le (show xs.length ≤ min a xs.length by omega), List.drop_eq_nil_of_le (show xs.length ≤ a by omega), List.take_nil, List.take_nil]
theorem cutInit (xs : List V) : cutV xs none (some (-1)) = xs.take (xs.length - 1) := by
  unfold cutV
  have e2 : HT.sIx xs.length xs.length (some (-1)) = xs.length - 1 := by
    show (if (-1 : Int) < 0 then (-1 + (xs.length : Int)).toNat else min (-1 : Int).toNat xs.length) = _
    rw [if_pos (by decide)]
    omega
  have e1 : HT.sIx xs.length 0 none = 0 := rfl
  rw [e2, e1, List.drop_zero, Nat.sub_zero]
section
variable {K : PySem.W.Frag} {ρ : Rho} {ta tb tc : TE} {ds : List PyData}
/-- ds[-1:] -/
theorem pu_last (h1 : PuE K ta ρ (.list ds)) (h2 : PuE K tb ρ (.int (-1))) : PuE K (tSl (rSlL K) ta (tPart tb) tNoPart) ρ (.list (ds.drop (ds.length - 1))) := fun M σ H hid en Q q =>
  h1 M σ H hid en _ fun v H1 e1 hv => h2 M σ H1 (hid.same e1) (en.same (vis_same e1)) _ fun u H2 e2 hu => by
    obtain ⟨a, vs, rfl, hs, ha⟩ := dp_lstI (dp_same (vis_same e2) _ _ hv)
    refine ⟨-1, dp_intI hu, a, vs, rfl, vis_sub.seq hs, fun p np => ?_⟩
    rw [cutLast, dpAll_len ha]
    exact q (.ref p) _ ((e1.trans e2).trans (same_new np _)) (.lst (SqL.of (vis_new (hid.same (e1.trans e2)) np)) (dpAll_same (vis_same (same_new np _)) _ _ (dpAll_drop _ ha)))
/-- ds[a:b] -/
theorem pu_mid {a b : Nat} (h1 : PuE K ta ρ (.list ds)) (h2 : PuE K tb ρ (.int a)) (h3 : PuE K tc ρ (.int b)) (hab : a ≤ b) : PuE K (tSl (rSlL K) ta (tPart tb) (tPart tc)) ρ (.list ((ds.take b).drop a)) := fun M σ H hid en Q q =>
  h1 M σ H hid en _ fun v H1 e1 hv => h2 M σ H1 (hid.same e1) (en.same (vis_same e1)) _ fun u H2 e2 hu => by
    refine ⟨a, dp_intI hu, h3 M σ H2 (hid.same (e1.trans e2)) (en.same (vis_same (e1.trans e2))) _ fun w H3 e3 hw => ?_⟩
    obtain ⟨p, vs, rfl, hs, ha⟩ := dp_lstI (dp_same (vis_same (e2.trans e3)) _ _ hv)
    refine ⟨b, dp_intI hw, p, vs, rfl, vis_sub.seq hs, fun r nr => ?_⟩
    rw [cutMid _ _ _ hab]
    exact q (.ref r) _ (((e1.trans e2).trans e3).trans (same_new nr _)) (.lst (SqL.of (vis_new (hid.same ((e1.trans e2).trans e3)) nr)) (dpAll_same (vis_same (same_new nr _)) _ _ (dpAll_drop _ (dpAll_take _ ha))))
/-- ds[:-1] -/
theorem pu_init (h1 : PuE K ta ρ (.list ds)) (h2 : PuE K tb ρ (.int (-1))) : PuE K (tSl (rSlL K) ta tNoPart (tPart tb)) ρ (.list ds.dropLast) := fun M σ H hid en Q q =>
  h1 M σ H hid en _ fun v H1 e1 hv => h2 M σ H1 (hid.same e1) (en.same (vis_same e1)) _ fun u H2 e2 hu => by
    obtain ⟨a, vs, rfl, hs, ha⟩ := dp_lstI (dp_same (vis_same e2) _ _ hv)
    refine ⟨-1, dp_intI hu, a, vs, rfl, vis_sub.seq hs, fun p np => ?_⟩
    rw [cutInit]
    refine q (.ref p) _ ((e1.trans e2).trans (same_new np _)) (.lst (SqL.of (vis_new (hid.same (e1.trans e2)) np)) (dpAll_same (vis_same (same_new np _)) _ _ ?_))
    rw [List.dropLast_eq_take, ← dpAll_len ha]
    exact dpAll_take _ ha
end
section
variable {K : PySem.W.Frag} {ρ ρ' : RhoO} {te : TE} {tA : TA} {d : PyData} {ds es : List PyData} {t u : TS}
theorem px_call {m : Nat} {g : List PyData → PyData → Prop} (h : PaX K tA ρ ds) (hm : ds.length = m := by rfl) (hg : g ds d) : PuX K (tCall (spPu K m g) [] E0 tA) ρ d := fun M M' H0 H σ en Q q =>
  h M M' H0 H σ en _ fun vs H1 e1 hvs => ⟨M', ds, d, en.hid.same e1, by rw [List.append_nil, dpAll_len hvs, hm], by rw [List.append_nil]; exact hvs, hg, fun v H' e hv => q v H' (e1.trans e) hv⟩
theorem puo_frozen {i : Nat} (h : PuO K t ρ (.nx ρ')) (hi : ρ'[i]? = some (some (.o ds))) : PuO K t ρ (.nx (ρ'.set i (some (.d (.list ds))))) := fun M H0 H σ en D q => h M H0 H σ en D fun σ' H' ⟨N, e⟩ => q σ' H' (e.freeze hi)
/-- l[j] = e, l an own list -/
theorem puo_item {i j n : Nat} (hi : ρ[i]? = some (some (.o ds))) (hj : ρ[j]? = some (some (.d (.int (n : Int))))) (hn : n < ds.length) (h : PuX K te ρ d) : PuO K (tAsg te (gSub (tVar i) (tVar j) rSetL)) ρ (.nx (ρ.set i (some (.o (ds.set n d))))) := fun M H0 H σ ⟨M', en⟩ D q =>
  h M M' H0 H σ en _ fun v H1 e1 hv => by
    have en1 := en.next e1
    obtain ⟨p, vs, a, _, b, c1, c2, c3, c4⟩ := en1.own i _ ds hi rfl
    obtain ⟨vj, aj, bj⟩ := en1.dat j _ hj
    obtain rfl := dp_intI bj
    have nl : n < vs.length := by rw [dpAll_len c4]; exact hn
    refine ⟨.ref p, a, .int n, aj, p, vs, n, n, rfl, rfl, b, ixN_nat nl, q σ _ ⟨M', en1.write hi a (dpAll_set n c4 hv)⟩⟩
end
section
variable {K : PySem.W.Frag} {ρ : Rho} {te ta tb : TE} {i j : Int} {ds : List PyData}
theorem pu_neg (h : PuE K te ρ (.int i)) : PuE K (tUn (rU fun i => .int (-i)) te) ρ (.int (-i)) := fun M σ H hid en Q q => h M σ H hid en _ fun v H1 e1 hv => by
  obtain rfl := dp_intI hv
  exact ⟨i, rfl, q _ H1 e1 (.int _)⟩
theorem pu_pow (h1 : PuE K ta ρ (.int i)) (h2 : PuE K tb ρ (.int j)) (hc : CPow i j) : PuE K (tOp (rI CPow fun i j => .int (i ^ j.toNat)) ta tb) ρ (.int (i ^ j.toNat)) := pu_rI h1 h2 hc fun H => .int _
/-- tuple(l) -/
theorem pu_tupOf (h : PuE K te ρ (.list ds)) : PuE K (tCB (fun xs H Q => ∃ p ys, xs = [V.ref p] ∧ ((SqL K H p ys ∧ ∀ l, H l = none → Q (.ref l) (upd H l (.tup ys))) ∨ (SqT K H p ys ∧ Q (.ref p) H))) (tCons te tNil)) ρ (.tuple ds) := fun M σ H hid en Q q => h M σ H hid en _ fun v H1 e1 hv => by
  obtain ⟨a, vs, rfl, hs, ha⟩ := dp_lstI hv
  exact ⟨a, vs, rfl, .inl ⟨vis_sub.seq hs, fun p np => q (.ref p) _ (e1.trans (same_new np _)) (.tup (SqT.of (vis_new (hid.same e1) np)) (dpAll_same (vis_same (same_new np _)) _ _ ha))⟩⟩
theorem atI_getD {l : List PyData} {z : Int} {n : Nat} (e : l.length = n) (h : 0 < n) : atI l (z % (n : Int)) = some (l.getD (z % (n : Int)).toNat .none) := by
  have hl := toNat_lt z h
  have h0 := Int.emod_nonneg z (show (n : Int) ≠ 0 by omega)
  have e2 : (((z % (n : Int)).toNat : Nat) : Int) = z % (n : Int) := by omega
  have := atI_nat (xs := l) (j := (z % (n : Int)).toNat) (List.getElem?_eq_getElem (by omega))
  rw [e2] at this
  rw [this, List.getD_eq_getElem?_getD, List.getElem?_eq_getElem (by omega)]
  rfl
end
end Lm
set_option Elab.async false
set_option linter.all false
set_option maxRecDepth 100000
set_option maxHeartbeats 400000
/-! a law as a pure def -/
namespace Lm
open PySem PySem.Spec PyProof.Rows L2
theorem dp_intsL {K : PySem.W.Frag} {H : Hp} {a : Addr} {ns : List Int} (h : SqL K H a (ns.map V.int)) : Dp K H (.ref a) (intsD ns) := .lst h (dpAll_ints ns)
def gLaw (ds : List PyData) (d : PyData) : Prop := ∃ ns : List Int, ds = [intsD ns] ∧ ns.length ≤ 63 ∧ d = .bool true
theorem law_of {P : Program} {w : World} {K : PySem.W.Frag} {mg : Str → Option Value} {base : Heap} {f : Addr} {fd : FuncData} {k : Nat} (F : FnOk P w K mg base CX0 k f fd ["_law_script"] (spPu K 1 gLaw)) : FnOk P w K mg base CX0 k f fd ["_law_script"] (spLaw K) :=
  F.imp fun vs H Q E ⟨a, ns, e, hS, h63, q⟩ => ⟨fun _ => false, [intsD ns], .bool true, Hid.none, by rw [e]; rfl, by rw [e, vis_none]; exact .cons (dp_intsL hS) .nil, ⟨ns, rfl, h63, rfl⟩, fun v H' _ hv => by rw [dp_blI hv]; exact q H'⟩
end Lm
set_option Elab.async false
set_option linter.all false
set_option maxRecDepth 100000
set_option maxHeartbeats 1000000
/-! the law's own walk -/
namespace Lm
open PySem PySem.Spec PyProof.Rows L2
theorem alike_subC {a b : Cl} : Alike a b ↔ Sub a b ∧ Sub b a :=
  ⟨fun h => ⟨⟨fun f => (h.1 f).1, fun f => (h.2 f).1⟩, ⟨fun f => (h.1 f).2, fun f => (h.2 f).2⟩⟩, fun h => ⟨fun f => ⟨h.1.1 f, h.2.1 f⟩, fun f => ⟨h.1.2 f, h.2.2 f⟩⟩⟩
theorem lwants_besideC {c : Cl} {r : Ru} (ft : fits c r = true) : ∃ ws, lwants c r = some ws ∧ ws.length = (wants c r).length ∧ ∀ (i : Nat) (w : Cl), ws[i]? = some w → ∃ w', (wants c r)[i]? = some w' ∧ Alike w w' := by
  cases r with
  | fm v f => exact ⟨_, by rw [lwants_eq, ft, if_pos rfl], rfl, fun i w h => ⟨w, h, alike_refl w⟩⟩
  | more m =>
    refine ⟨[m], by rw [lwants_more, ft, if_pos rfl], rfl, fun i w h => ?_⟩
    cases i with
    | zero =>
      cases h
      exact ⟨(once m.1, once m.2), rfl, fun f => mem_once.symm, fun f => mem_once.symm⟩
    | succ i => cases h
theorem chn_atC {ls : List PyData} {cs : List Cl} (h : Chn ls cs) : ∀ {i : Nat} {line : PyData}, ls[i]? = some line → ∃ c ru ns, cs[i]? = some c ∧ FolL line (cs.take i) c ru ns := by
  induction h with
  | nil => intro i line e; cases e
  | @snoc ls cs line c ru ns h f ih =>
    intro i line' e
    have hl := h.len
    by_cases z : i < ls.length
    · rw [List.getElem?_append_left z] at e
      obtain ⟨c', ru', ns', a, b⟩ := ih e
      refine ⟨c', ru', ns', by rw [List.getElem?_append_left (by omega)]; exact a, ?_⟩
      rw [List.take_append_of_le_length (by omega)]
      exact b
    · have il : i < (ls ++ [line]).length := (List.getElem?_eq_some_iff.mp e).1
      rw [List.length_append, List.length_singleton] at il
      have : i = ls.length := by omega
      subst this
      rw [List.getElem?_append_right (Nat.le_refl _), Nat.sub_self] at e
      cases e
      refine ⟨c, ru, ns, by rw [hl, List.getElem?_append_right (Nat.le_refl _), Nat.sub_self]; rfl, ?_⟩
      rw [hl, List.take_append_of_le_length (Nat.le_refl _), List.take_length]
      exact f
theorem onceA_self : ∀ (acc L : List Fm), (acc ++ L).Nodup → onceA acc L = acc ++ L
  | acc, [], _ => by rw [onceA, List.append_nil]
  | acc, f :: r, h => by
    have n : f ∉ acc := fun z => by
      have := (List.nodup_append.mp h).2.2 f z f List.mem_cons_self
      exact this rfl
    rw [onceA, if_neg n, onceA_self (acc ++ [f]) r (by rw [List.append_assoc]; exact h), List.append_assoc]
    rfl
theorem once_self {L : List Fm} (h : L.Nodup) : once L = L := onceA_self [] L h
theorem strs_in {x : Str} : ∀ ys : List Str, inV (V.str x) (ys.map V.str) = decide (x ∈ ys)
  | [] => rfl
  | y :: ys => by
    have ih := strs_in (x := x) ys
    rw [List.map_cons]
    unfold inV at ih ⊢
    rw [List.any_cons, ih]
    by_cases e : x = y
    · subst e
      simp [eqV]
    · simp only [eqV, List.mem_cons, e, false_or]
      rw [beq_eq_false_iff_ne.mpr (fun z : y = x => e z.symm), Bool.false_or]
theorem strs_flat : ∀ ys : List Str, (ys.map V.str).all flatV = true
  | [] => rfl
  | y :: ys => by rw [List.map_cons, List.all_cons, strs_flat ys]; rfl
theorem dpAll_strsC {K : PySem.W.Frag} {H : Hp} : ∀ {ns : List Str} {vs : List V}, DpAll K H vs (ns.map PyData.str) → vs = ns.map V.str
  | [], _, h => by cases h; rfl
  | b :: bs, _, h => by
    have h : DpAll K H _ (PyData.str b :: bs.map PyData.str) := h
    cases h with
    | cons h1 h2 => rw [dp_strI h1, dpAll_strsC h2]; rfl
section
variable {K : PySem.W.Frag} {ρ : Rho} {te ta tb : TE}
theorem pu_inTx {neg : Bool} {x : Str} {ys : List Str} (h1 : PuE K ta ρ (.str x)) (h2 : PuE K tb ρ (.tuple (ys.map PyData.str))) : PuE K (tOp (rIn K neg) ta tb) ρ (.bool (if neg = true then !decide (x ∈ ys) else decide (x ∈ ys))) := fun M σ H hid en Q q =>
  h1 M σ H hid en _ fun v H1 e1 hv => h2 M σ H1 (hid.same e1) (en.same (vis_same e1)) _ fun u H2 e2 hu => by
    obtain rfl := dp_strI hv
    obtain ⟨a, vs, rfl, hs, ha⟩ := dp_tupI hu
    have e := dpAll_strsC ha
    subst e
    refine ⟨a, _, rfl, .inr (sqT_same vis_sub hs), rfl, strs_flat ys, ?_⟩
    rw [strs_in]
    exact q _ H2 (e1.trans e2) (.bl _)
end
def gWhole (ds : List PyData) (d : PyData) : Prop := ∃ i : Int, ds = [.int i] ∧ d = .bool true
def gFmIs (n : Nat) (ds : List PyData) (d : PyData) : Prop := ∃ (f : Fm) (k : Int), ds = [f.toD, .int k] ∧ f.good ∧ f.dep ≤ n ∧ k + (f.dep : Int) ≤ 13 ∧ d = .bool true
/-- what the law takes for a line -/
structure LnG (G : Cl → Prop) (l : Ln) : Prop where
  cl : G l.c
  rl : match l.r with
    | .fm _ f => f.good ∧ f.dep ≤ 12
    | .more m => G m
  ul : l.u.length ≤ 100
def gClIs (G : Cl → Prop) (ds : List PyData) (d : PyData) : Prop := ∃ c : Cl, ds = [c.toD] ∧ G c ∧ d = .bool true
def gLnIs (G : Cl → Prop) (ds : List PyData) (d : PyData) : Prop := ∃ l : Ln, ds = [l.toD] ∧ LnG G l ∧ d = .bool true
section
variable {P : Program} {w : World} {K : PySem.W.Frag} {mg : Str → Option Value} {base : Heap} {f : Addr} {fd : FuncData}
theorem scWhole : FnScope ["_law_found"] ["_law_found"] (defScope sWhole) := ⟨rfl, rfl, rfl, by decide +kernel, rfl, by decide +kernel, by decide +kernel⟩
theorem ok_whole (D : Df K mg "_law_whole" sWhole ["_law_found"] f fd) (B : Blt mg) : FnOk P w K mg base CX0 1 f fd ["_law_found"] (spPu K 1 gWhole) := by
  refine ok_pu D scWhole fun cdv A outer s H E hr => ?_
  refine ⟨_, (pss_one (ps_ret (pe_and (pe_callB (r := rIsi K) call_isi (by rfl) B.isinstance bt_isinstance (pa_cons (pv 0) (pa_cons (pe_bltn (v := .ty "int") (by rfl) B.int bt_int rfl) pa_nil))) (pe_one (pe_not (pe_callB (r := rIsi K) call_isi (by rfl) B.isinstance bt_isinstance (pa_cons (pv 0) (pa_cons (pe_bltn (v := .ty "bool") (by rfl) B.bool bt_bool rfl) pa_nil)))))))), ?_⟩
  rintro ds d hl ⟨i, rfl, rfl⟩
  exact .inl (pus_ret (pu_and (b := true) (pu_isInt (d := .int i) (pu_var rfl)) fun _ => pu_not (b := false) (pu_isBool (d := .int i) (pu_var rfl))))
theorem scLFormulaIs : FnScope ["_law_f", "_law_deep_here"] ["_law_f", "_law_deep_here"] (defScope sLFormulaIs) := ⟨rfl, rfl, rfl, by decide +kernel, rfl, by decide +kernel, by decide +kernel⟩
theorem ok_lfmIs {n : Nat} (D : Df K mg "_law_formula_is" sLFormulaIs ["_law_f", "_law_deep_here"] f fd) (B : Blt mg) (h_law_whole : Has P w K mg base 1 "_law_whole" ["_law_found"] (spPu K 1 gWhole)) (h_law_formula_is : Has P w K mg base (n + 1) "_law_formula_is" ["_law_f", "_law_deep_here"] (spPu K 2 (gFmIs n))) :
    FnOk P w K mg base CX0 (n + 2) f fd ["_law_f", "_law_deep_here"] (spPu K 2 (gFmIs (n + 1))) := by
  refine ok_pu D scLFormulaIs fun cdv A outer s H E hr => ?_
  refine ⟨_, (pss_cons (ps_if (PW.pt (pw_or (pt_cmpR op_gt (pv 1) pe_int (nomark _)) (pw_or (pt_not (pt_val (pe_callB (r := rIsi K) call_isi (by rfl) B.isinstance bt_isinstance (pa_cons (pv 0) (pa_cons (pe_bltn (v := .ty "tuple") (by rfl) B.tuple bt_tuple rfl) pa_nil))))) (pw_or (pt_cmpR op_lt (pe_callB (r := rLn K) call_len_seq (by rfl) B.len PySem.boot_len (pa_cons (pv 0) pa_nil)) pe_int (nomark _)) (pw_or1 (pt_not (pt_val (pe_callB (r := rIsi K) call_isi (by rfl) B.isinstance bt_isinstance (pa_cons (pe_ix (r := rIxT K) ix_tup (pv 0) pe_int (fun _ _ => rfl)) (pa_cons (pe_bltn (v := .ty "str") (by rfl) B.str bt_str rfl) pa_nil)))))))))) (pss_one (ps_ret pe_bl)) pss_nil)
    (pss_cons (ps_if (pt_cmpR op_eq (pe_ix (r := rIxT K) ix_tup (pv 0) pe_int (fun _ _ => rfl)) pe_str (nomark _)) (pss_one (ps_ret (pe_and (pe_cmpR op_eq (pe_callB (r := rLn K) call_len_seq (by rfl) B.len PySem.boot_len (pa_cons (pv 0) pa_nil)) pe_int (nomark _)) (pe_and (pe_callH h_law_whole (hr.mono (by omega)) (by rfl) (pa_cons (pe_ix (r := rIxT K) ix_tup (pv 0) pe_int (fun _ _ => rfl)) pa_nil)) (pe_and (pe_cmpR op_le pe_int (pe_ix (r := rIxT K) ix_tup (pv 0) pe_int (fun _ _ => rfl)) (nomark _)) (pe_one (pe_cmpR op_le (pe_ix (r := rIxT K) ix_tup (pv 0) pe_int (fun _ _ => rfl)) pe_int (nomark _)))))))) pss_nil)
    (pss_cons (ps_if (pt_cmpR op_eq (pe_ix (r := rIxT K) ix_tup (pv 0) pe_int (fun _ _ => rfl)) pe_str (nomark _)) (pss_one (ps_ret (pe_and (pe_cmpR op_eq (pe_callB (r := rLn K) call_len_seq (by rfl) B.len PySem.boot_len (pa_cons (pv 0) pa_nil)) pe_int (nomark _)) (pe_one (pe_callH h_law_formula_is (hr.mono (by omega)) (by rfl) (pa_cons (pe_ix (r := rIxT K) ix_tup (pv 0) pe_int (fun _ _ => rfl)) (pa_cons (pe_op op_add (pv 1) pe_int) pa_nil))))))) pss_nil)
    (pss_cons (ps_if (PW.pt (pw_or (pt_cmpR op_notIn_seq (pe_ix (r := rIxT K) ix_tup (pv 0) pe_int (fun _ _ => rfl)) (pe_tup (pa_cons pe_str (pa_cons pe_str (pa_cons pe_str pa_nil)))) (by rfl)) (pw_or1 (pt_cmpR op_ne (pe_callB (r := rLn K) call_len_seq (by rfl) B.len PySem.boot_len (pa_cons (pv 0) pa_nil)) pe_int (nomark _))))) (pss_one (ps_ret pe_bl)) pss_nil)
    (pss_one (ps_ret (pe_and (pe_callH h_law_formula_is (hr.mono (by omega)) (by rfl) (pa_cons (pe_ix (r := rIxT K) ix_tup (pv 0) pe_int (fun _ _ => rfl)) (pa_cons (pe_op op_add (pv 1) pe_int) pa_nil))) (pe_one (pe_callH h_law_formula_is (hr.mono (by omega)) (by rfl) (pa_cons (pe_ix (r := rIxT K) ix_tup (pv 0) pe_int (fun _ _ => rfl)) (pa_cons (pe_op op_add (pv 1) pe_int) pa_nil))))))))))), ?_⟩
  rintro ds d hl ⟨g, k, rfl, gg, gd, gk, rfl⟩
  left
  have gp := g.dep_pos
  have hd0 : ∀ {x : Str} {r : List PyData} {ρ : Rho}, ρ[0]? = some (some (.tuple (.str x :: r))) → PuE K (tOp (rIxT K) (tVar 0) (tC (.int 0))) ρ (.str x) := fun {x r ρ} h => pu_ixT (ds := .str x :: r) (pu_var h) (pu_int 0) (atI_nat (j := 0) rfl)
  have first : ∀ {x : Str} {y : PyData} {r : List PyData} {ρ : Rho}, ρ[0]? = some (some (.tuple (.str x :: y :: r))) → ρ[1]? = some (some (.int k)) →
      PuT K (tOr (tTest (tOp (rI0 fun i j => .bl (decide (j < i))) (tVar 1) (tC (.int 12)))) (tOr (tNot (tB (tCB (rIsi K) (tCons (tVar 0) (tCons (tC (.ty "tuple")) tNil))))) (tOr (tTest (tOp (rI0 fun i j => .bl (decide (i < j))) (tCB (rLn K) (tCons (tVar 0) tNil)) (tC (.int 2)))) (tNot (tB (tCB (rIsi K) (tCons (tOp (rIxT K) (tVar 0) (tC (.int 0))) (tCons (tC (.ty "str")) tNil)))))))) ρ false := fun {x y r ρ} h h1 =>
    pu_or_r ((pu_tTest (pu_gt (pu_var h1) (pu_int 12))).cast (decide_eq_false (by omega))) (pu_or_r (pu_tNot (b := true) (pu_tB (pu_isTup (pu_var h)))) (pu_or_r ((pu_tTest (pu_lt (pu_len_t (pu_var h)) (pu_int 2))).cast (decide_eq_false (by rw [List.length_cons, List.length_cons]; omega))) (pu_tNot (b := true) (pu_tB (pu_isStr (hd0 h))))))
  have no0 : ∀ {x y : Str} {r : List PyData} {ρ : Rho}, ρ[0]? = some (some (.tuple (.str x :: r))) → ¬ x = y → PuT K (tTest (tOp rEq (tOp (rIxT K) (tVar 0) (tC (.int 0))) (tC (.str y)))) ρ false := fun h n => pu_eqS0 (hd0 h) (pu_str _) n
  have rcl : ∀ (j : Int) (x : Fm) {ρ : Rho} {r : List PyData}, ρ[0]? = some (some (.tuple r)) → ρ[1]? = some (some (.int k)) → atI r j = some x.toD → x.good → x.dep ≤ n → k + 1 + (x.dep : Int) ≤ 13 → PuE K (tCall (spPu K 2 (gFmIs n)) [] E0 (tCons (tOp (rIxT K) (tVar 0) (tC (.int j))) (tCons (tOp (rI0 fun i j => .int (i + j)) (tVar 1) (tC (.int 1))) tNil))) ρ (.bool true) := fun j x ρ r h h1 e gx dx kx =>
    pu_call (pu_cons (pu_ixT (pu_var h) (pu_int j) e) (pu_cons (pu_add (pu_var h1) (pu_int 1)) pu_nil)) rfl ⟨x, k + 1, rfl, gx, dx, kx, rfl⟩
  cases g with
  | sg i =>
    have gi : 0 ≤ i ∧ i ≤ 99 := gg
    refine pus_skip (first (x := ("sign" : Str)) (y := .int i) (r := []) rfl rfl) ?_
    refine pus_take (pu_eqS1 (hd0 (r := [.int i]) rfl) (pu_str _) rfl) (pus_ret ?_)
    have i1 : ∀ {ρ : Rho}, ρ[0]? = some (some (Fm.sg i).toD) → PuE K (tOp (rIxT K) (tVar 0) (tC (.int 1))) ρ (.int i) := fun h => pu_ixT (ds := [.str ("sign" : Str), .int i]) (pu_var h) (pu_int 1) (tix1 _ _ _)
    exact (pu_and (pu_eqI (pu_len_t (ds := [.str ("sign" : Str), .int i]) (pu_var rfl)) (pu_int 2)) fun _ => pu_and (pu_call (pu_cons (i1 rfl) pu_nil) rfl ⟨i, rfl, rfl⟩) fun _ => pu_and (pu_le (pu_int 0) (i1 rfl)) fun _ => pu_le (i1 rfl) (pu_int 99)).cast (by rw [decide_eq_true gi.1, decide_eq_true gi.2]; rfl)
  | no g =>
    have gd : g.dep + 1 ≤ n + 1 := gd
    have gk : k + ((g.dep + 1 : Nat) : Int) ≤ 13 := gk
    refine pus_skip (first (x := ("not" : Str)) (y := g.toD) (r := []) rfl rfl) ?_
    refine pus_skip (no0 (r := [g.toD]) rfl (by decide +kernel)) ?_
    refine pus_take (pu_eqS1 (hd0 (r := [g.toD]) rfl) (pu_str _) rfl) (pus_ret ?_)
    exact pu_and (b := true) (pu_eqI (pu_len_t (ds := [.str ("not" : Str), g.toD]) (pu_var rfl)) (pu_int 2)) fun _ => rcl 1 g (r := [.str ("not" : Str), g.toD]) rfl rfl (tix1 _ _ _) gg (by omega) (by omega)
  | bi b g h =>
    have gd : max g.dep h.dep + 1 ≤ n + 1 := gd
    have gk : k + ((max g.dep h.dep + 1 : Nat) : Int) ≤ 13 := gk
    have gg : g.good ∧ h.good := gg
    refine pus_skip (first (x := b.txt) (y := g.toD) (r := [h.toD]) rfl rfl) ?_
    refine pus_skip (no0 (x := b.txt) (r := [g.toD, h.toD]) rfl (txt_sign b)) ?_
    refine pus_skip (no0 (x := b.txt) (r := [g.toD, h.toD]) rfl (txt_not b)) ?_
    refine pus_skip (pu_or_r ((pu_tTest (pu_inTx (neg := true) (ys := [("and" : Str), "or", "then"]) (hd0 (x := b.txt) (r := [g.toD, h.toD]) rfl) (pu_tup (pu_cons (pu_str _) (pu_cons (pu_str _) (pu_cons (pu_str _) pu_nil))) (by simp)))).cast (by cases b <;> decide +kernel)) ((pu_tTest (pu_neI (pu_len_t (ds := [.str b.txt, g.toD, h.toD]) (pu_var rfl)) (pu_int 3))).cast rfl)) ?_
    exact pus_ret (pu_and (b := true) (rcl 1 g (r := [.str b.txt, g.toD, h.toD]) rfl rfl (tix1 _ _ _) gg.1 (by omega) (by omega)) fun _ => rcl 2 h (r := [.str b.txt, g.toD, h.toD]) rfl rfl (tix2 _ _ _ _) gg.2 (by omega) (by omega))
theorem all_lfmIs (D : Df K mg "_law_formula_is" sLFormulaIs ["_law_f", "_law_deep_here"] f fd) (B : Blt mg) (h_law_whole : Has P w K mg base 1 "_law_whole" ["_law_found"] (spPu K 1 gWhole)) : ∀ n : Nat, Has P w K mg base (n + 1) "_law_formula_is" ["_law_f", "_law_deep_here"] (spPu K 2 (gFmIs n))
  | 0 => by
    have no : ∀ vs H Q E, ¬ spPu K 2 (gFmIs 0) vs H Q E := fun vs H Q E h => by
      obtain ⟨M, ds, d, _, _, _, ⟨g, _, _, _, hm, _⟩, _⟩ := h
      have := g.dep_pos
      omega
    exact D.has ⟨fun vs H Q E h => absurd h (no vs H Q E), fun A outer s H args us vs Q E _ _ _ _ h => absurd h (no vs H Q E)⟩
  | n + 1 => D.has (ok_lfmIs D B h_law_whole (all_lfmIs D B h_law_whole n))
theorem scLLineIs : FnScope ["_law_line", "_law_rule", "_law_known", "_law_use"] ["_law_line"] (defScope sLLineIs) := ⟨rfl, rfl, rfl, by decide +kernel, rfl, by decide +kernel, by decide +kernel⟩
theorem ok_llnIs {G : Cl → Prop} (D : Df K mg "_law_line_is" sLLineIs ["_law_line"] f fd) (B : Blt mg) (h_law_whole : Has P w K mg base 1 "_law_whole" ["_law_found"] (spPu K 1 gWhole)) (h_law_formula_is : Has P w K mg base 14 "_law_formula_is" ["_law_f", "_law_deep_here"] (spPu K 2 (gFmIs 13))) (h_law_claim_is : Has P w K mg base 16 "_law_claim_is" ["_law_claim_here"] (spPu K 1 (gClIs G))) :
    FnOk P w K mg base CX0 17 f fd ["_law_line"] (spPu K 1 (gLnIs G)) := by
  refine ok_pu D scLLineIs fun cdv A outer s H E hr => ?_
  refine ⟨_, (pss_cons (ps_if (PW.pt (pw_or (pt_not (pt_val (pe_callB (r := rIsi K) call_isi (by rfl) B.isinstance bt_isinstance (pa_cons (pv 0) (pa_cons (pe_bltn (v := .ty "tuple") (by rfl) B.tuple bt_tuple rfl) pa_nil))))) (pw_or (pt_cmpR op_ne (pe_callB (r := rLn K) call_len_seq (by rfl) B.len PySem.boot_len (pa_cons (pv 0) pa_nil)) pe_int (nomark _)) (pw_or1 (pt_not (pt_val (pe_callH h_law_claim_is (hr.mono (by omega)) (by rfl) (pa_cons (pe_ix (r := rIxT K) ix_tup (pv 0) pe_int (fun _ _ => rfl)) pa_nil)))))))) (pss_one (ps_ret pe_bl)) pss_nil)
    (pss_cons (ps_set (i := 1) scLLineIs.nd rfl (by first | exact Or.inl rfl | exact Or.inr rfl) (pe_ix (r := rIxT K) ix_tup (pv 0) pe_int (fun _ _ => rfl)))
    (pss_cons (ps_if (PW.pt (pw_or (pt_not (pt_val (pe_callB (r := rIsi K) call_isi (by rfl) B.isinstance bt_isinstance (pa_cons (pv 1) (pa_cons (pe_bltn (v := .ty "tuple") (by rfl) B.tuple bt_tuple rfl) pa_nil))))) (pw_or (pt_cmpR op_ne (pe_callB (r := rLn K) call_len_seq (by rfl) B.len PySem.boot_len (pa_cons (pv 1) pa_nil)) pe_int (nomark _)) (pw_or1 (pt_not (pt_val (pe_callB (r := rIsi K) call_isi (by rfl) B.isinstance bt_isinstance (pa_cons (pe_ix (r := rIxT K) ix_tup (pv 1) pe_int (fun _ _ => rfl)) (pa_cons (pe_bltn (v := .ty "str") (by rfl) B.str bt_str rfl) pa_nil))))))))) (pss_one (ps_ret pe_bl)) pss_nil)
    (pss_cons (ps_if (PW.pt (pw_and (pt_cmpR op_eq (pe_ix (r := rIxT K) ix_tup (pv 1) pe_int (fun _ _ => rfl)) pe_str (nomark _)) (pw_and1 (pt_not (pt_val (pe_callH h_law_claim_is (hr.mono (by omega)) (by rfl) (pa_cons (pe_ix (r := rIxT K) ix_tup (pv 1) pe_int (fun _ _ => rfl)) pa_nil))))))) (pss_one (ps_ret pe_bl)) pss_nil)
    (pss_cons (ps_if (PW.pt (pw_and (pt_cmpR op_ne (pe_ix (r := rIxT K) ix_tup (pv 1) pe_int (fun _ _ => rfl)) pe_str (nomark _)) (pw_and1 (pt_not (pt_val (pe_callH h_law_formula_is (hr.mono (by omega)) (by rfl) (pa_cons (pe_ix (r := rIxT K) ix_tup (pv 1) pe_int (fun _ _ => rfl)) (pa_cons pe_int pa_nil)))))))) (pss_one (ps_ret pe_bl)) pss_nil)
    (pss_cons (ps_set (i := 2) scLLineIs.nd rfl (by first | exact Or.inl rfl | exact Or.inr rfl) (pe_cmpR op_in_seq (pe_ix (r := rIxT K) ix_tup (pv 1) pe_int (fun _ _ => rfl)) (pe_tup (pa_cons pe_str (pa_cons pe_str (pa_cons pe_str (pa_cons pe_str (pa_cons pe_str pa_nil)))))) (by rfl)))
    (pss_one (ps_ret (pe_and (pv 2) (pe_and (pe_callB (r := rIsi K) call_isi (by rfl) B.isinstance bt_isinstance (pa_cons (pe_ix (r := rIxT K) ix_tup (pv 0) pe_int (fun _ _ => rfl)) (pa_cons (pe_bltn (v := .ty "list") (by rfl) B.list bt_list rfl) pa_nil))) (pe_one (pe_callB (r := rAll K) (cr_all rfl) (by rfl) B.all bt_all (pa_cons (pe_lc (own := [("_law_use", 3)]) (g := gName 3) (tt := tYes) rfl scLLineIs.nd (pi_list (pe_ix (r := rIxT K) ix_tup (pv 0) pe_int (fun _ _ => rfl))) (blkOk_by (N := ["_law_line", "_law_rule", "_law_known", "_law_use"]) (sc := defScope sLLineIs) (by decide +kernel)) (fun _ _ _ _ _ => (pg_name (i := 3) scLLineIs.nd rfl (by first | exact Or.inl rfl | exact Or.inr rfl))) (fun _ _ _ _ _ => pts_nil) (fun _ _ _ _ _ => (pe_callH h_law_whole (hr.mono (by omega)) (by rfl) (pa_cons (pv 3) pa_nil)))) pa_nil))))))))))))), ?_⟩
  rintro ds d hl ⟨l, rfl, ⟨gc, gr, ul⟩, rfl⟩
  left
  obtain ⟨c, r, us⟩ := l
  have ul : us.length ≤ 100 := ul
  have hL : ∀ {ρ : Rho}, ρ[0]? = some (some (Ln.mk c r us).toD) → PuE K (tOp (rIxT K) (tVar 0) (tC (.int 0))) ρ c.toD ∧ PuE K (tOp (rIxT K) (tVar 0) (tC (.int 1))) ρ r.toD ∧ PuE K (tOp (rIxT K) (tVar 0) (tC (.int 2))) ρ (intsD us) := fun {ρ} h =>
    ⟨pu_ixT (ds := [c.toD, r.toD, intsD us]) (pu_var h) (pu_int 0) (tix0 _ _ _), pu_ixT (ds := [c.toD, r.toD, intsD us]) (pu_var h) (pu_int 1) (tix1 _ _ _), pu_ixT (ds := [c.toD, r.toD, intsD us]) (pu_var h) (pu_int 2) (tix2 _ _ _ _)⟩
  refine pus_skip (pu_or_r (pu_tNot (b := true) (pu_tB (pu_isTup (d := (Ln.mk c r us).toD) (pu_var rfl)))) (pu_or_r ((pu_tTest (pu_neI (pu_len_t (ds := [c.toD, r.toD, intsD us]) (pu_var rfl)) (pu_int 3))).cast rfl) (pu_tNot (b := true) (pu_tB (pu_call (pu_cons (hL rfl).1 pu_nil) rfl ⟨c, rfl, gc, rfl⟩))))) ?_
  refine pus_set (d := r.toD) (hL rfl).2.1 ?_
  have last : ∀ (kn : Bool) {ρ : Rho} {te : TE}, ρ[0]? = some (some (Ln.mk c r us).toD) → 3 < ρ.length → PuE K te ρ (.bool true) → PuE K (tAndV te (tAndV (tCB (rIsi K) (tCons (tOp (rIxT K) (tVar 0) (tC (.int 2))) (tCons (tC (.ty "list")) tNil))) (tCB (rAll K) (tCons (tLc (iList K (tOp (rIxT K) (tVar 0) (tC (.int 2)))) (gName 3) tYes (tCall (spPu K 1 gWhole) [] E0 (tCons (tVar 3) tNil)) [3]) tNil)))) ρ (.bool true) := fun kn ρ te h h3 ht =>
    pu_and ht fun _ => pu_and (pu_isLst (d := intsD us) (hL h).2.2) fun _ => by
      have e : (us.map fun _ => true).all id = true := by rw [List.all_map]; exact List.all_eq_true.mpr fun _ _ => rfl
      rw [← e]
      refine pu_all ?_
      rw [List.map_map]
      exact pu_map (xs := us) (td := PyData.int) (pui_list (hL h).2.2) (by omega) _ fun x hx => pu_call (pu_cons (pu_var (d := .int x) (by rw [List.getElem?_set_self h3])) pu_nil) rfl ⟨x, rfl, rfl⟩
  cases r with
  | fm v g =>
    have gr : g.good ∧ g.dep ≤ 12 := gr
    have hR : ∀ {ρ : Rho}, ρ[1]? = some (some (Ru.fm v g).toD) → PuE K (tOp (rIxT K) (tVar 1) (tC (.int 0))) ρ (.str v.txt) ∧ PuE K (tOp (rIxT K) (tVar 1) (tC (.int 1))) ρ g.toD := fun {ρ} h =>
      ⟨pu_ixT (ds := [.str v.txt, g.toD]) (pu_var h) (pu_int 0) (tix0 _ _ _), pu_ixT (ds := [.str v.txt, g.toD]) (pu_var h) (pu_int 1) (tix1 _ _ _)⟩
    refine pus_skip (pu_or_r (pu_tNot (b := true) (pu_tB (pu_isTup (d := (Ru.fm v g).toD) (pu_var rfl)))) (pu_or_r ((pu_tTest (pu_neI (pu_len_t (ds := [.str v.txt, g.toD]) (pu_var rfl)) (pu_int 2))).cast rfl) (pu_tNot (b := true) (pu_tB (pu_isStr (hR rfl).1))))) ?_
    refine pus_skip (pu_tAnd (b := false) (c := true) (pu_eqS0 (hR rfl).1 (pu_str _) (wtxt_more v)) fun z => nomatch z) ?_
    refine pus_skip ((pu_tAnd (c := false) ((pu_tTest (pu_neS (hR rfl).1 (pu_str _)))) fun _ => pu_tNot (b := true) (pu_tB (pu_call (pu_cons (hR rfl).2 (pu_cons (pu_int 1) pu_nil)) rfl ⟨g, 1, rfl, gr.1, by omega, by omega, rfl⟩))).cast (Bool.and_false _)) ?_
    refine pus_set (d := .bool true) ((pu_inTx (neg := false) (ys := [("same" : Str), "left", "right", "more", "lemma"]) (hR rfl).1 (pu_tup (pu_cons (pu_str _) (pu_cons (pu_str _) (pu_cons (pu_str _) (pu_cons (pu_str _) (pu_cons (pu_str _) pu_nil))))) (by simp))).cast (congrArg PyData.bool (by cases v <;> decide +kernel))) ?_
    exact pus_ret (last true rfl (by show 3 < 4; decide) (pu_var rfl))
  | more m =>
    have gr : G m := gr
    have hR : ∀ {ρ : Rho}, ρ[1]? = some (some (Ru.more m).toD) → PuE K (tOp (rIxT K) (tVar 1) (tC (.int 0))) ρ (.str ("more" : Str)) ∧ PuE K (tOp (rIxT K) (tVar 1) (tC (.int 1))) ρ m.toD := fun {ρ} h =>
      ⟨pu_ixT (ds := [.str ("more" : Str), m.toD]) (pu_var h) (pu_int 0) (tix0 _ _ _), pu_ixT (ds := [.str ("more" : Str), m.toD]) (pu_var h) (pu_int 1) (tix1 _ _ _)⟩
    refine pus_skip (pu_or_r (pu_tNot (b := true) (pu_tB (pu_isTup (d := (Ru.more m).toD) (pu_var rfl)))) (pu_or_r ((pu_tTest (pu_neI (pu_len_t (ds := [.str ("more" : Str), m.toD]) (pu_var rfl)) (pu_int 2))).cast rfl) (pu_tNot (b := true) (pu_tB (pu_isStr (hR rfl).1))))) ?_
    refine pus_skip ((pu_tAnd (c := false) ((pu_tTest (pu_eqS (hR rfl).1 (pu_str _)))) fun _ => pu_tNot (b := true) (pu_tB (pu_call (pu_cons (hR rfl).2 pu_nil) rfl ⟨m, rfl, gr, rfl⟩))).cast (Bool.and_false _)) ?_
    refine pus_skip (pu_tAnd (b := false) (c := true) ((pu_tTest (pu_neS (hR rfl).1 (pu_str _))).cast (by rw [decide_eq_true rfl]; rfl)) fun z => nomatch z) ?_
    refine pus_set (d := .bool true) ((pu_inTx (neg := false) (ys := [("same" : Str), "left", "right", "more", "lemma"]) (hR rfl).1 (pu_tup (pu_cons (pu_str _) (pu_cons (pu_str _) (pu_cons (pu_str _) (pu_cons (pu_str _) (pu_cons (pu_str _) pu_nil))))) (by simp))).cast (congrArg PyData.bool (by decide +kernel))) ?_
    exact pus_ret (last true rfl (by show 3 < 4; decide) (pu_var rfl))
def gFol7 (ds : List PyData) (d : PyData) : Prop := ∃ (ls : List Ln) (k : Nat) (l : Ln), ds = [.list (lnsD ls), .int (k : Int)] ∧ ls[k]? = some l ∧ (∀ l ∈ ls, OkC l.c) ∧ l.r.ok ∧ fits l.c l.r = true ∧ l.u.length = (wants l.c l.r).length ∧
  (∀ (i : Nat) (w : Cl), (wants l.c l.r)[i]? = some w → ∃ j : Nat, l.u[i]? = some (j : Int) ∧ j < k ∧ Alike (clAt ls j) w) ∧ d = .bool true
theorem scLFollows : FnScope ["_law_lines", "_law_at", "_law_wants", "_law_uses", "_law_use", "_law_one_here"] ["_law_lines", "_law_at"] (defScope sLFollows) := ⟨rfl, rfl, rfl, by decide +kernel, rfl, by decide +kernel, by decide +kernel⟩
theorem ok_lfol7 (D : Df K mg "_law_follows" sLFollows ["_law_lines", "_law_at"] f fd) (B : Blt mg) (b_zip : mg "zip" = none) (h_law_wanted : Has P w K mg base 2 "_law_wanted" ["_law_claim_here", "_law_rule"] (spPu K 2 gLWanted)) (h_law_within : Has P w K mg base 1 "_law_within" ["_law_one_here", "_law_other"] (spPu K 2 gStandsIn)) :
    FnOk P w K mg base CX0 3 f fd ["_law_lines", "_law_at"] (spPu K 2 gFol7) := by
  refine ok_pu D scLFollows fun cdv A outer s H E hr => ?_
  refine ⟨_, (pss_cons (ps_set (i := 2) scLFollows.nd rfl (by first | exact Or.inl rfl | exact Or.inr rfl) (pe_callH h_law_wanted (hr.mono (by omega)) (by rfl) (pa_cons (pe_ix (r := rIxT K) ix_tup (pe_ix (r := rIxL K) ix_list (pv 0) (pv 1) (fun _ _ => rfl)) pe_int (fun _ _ => rfl)) (pa_cons (pe_ix (r := rIxT K) ix_tup (pe_ix (r := rIxL K) ix_list (pv 0) (pv 1) (fun _ _ => rfl)) pe_int (fun _ _ => rfl)) pa_nil))))
    (pss_cons (ps_set (i := 3) scLFollows.nd rfl (by first | exact Or.inl rfl | exact Or.inr rfl) (pe_ix (r := rIxT K) ix_tup (pe_ix (r := rIxL K) ix_list (pv 0) (pv 1) (fun _ _ => rfl)) pe_int (fun _ _ => rfl)))
    (pss_cons (ps_if (PW.pt (pw_or (pt_cmp (pc_isN (pv 2))) (pw_or1 (pt_cmpR op_ne (pe_callB (r := rLn K) call_len_seq (by rfl) B.len PySem.boot_len (pa_cons (pv 2) pa_nil)) (pe_callB (r := rLn K) call_len_seq (by rfl) B.len PySem.boot_len (pa_cons (pv 3) pa_nil)) (nomark _))))) (pss_one (ps_ret pe_bl)) pss_nil)
    (pss_cons (ps_for PassesOwn.never rfl (pi_zip (by rfl) b_zip (pa_cons (pv 3) (pa_cons (pv 2) pa_nil))) (pg_tup rfl (pgs_cons (pg_name (i := 4) scLFollows.nd rfl (by first | exact Or.inl rfl | exact Or.inr rfl)) (pgs_cons (pg_name (i := 5) scLFollows.nd rfl (by first | exact Or.inl rfl | exact Or.inr rfl)) pgs_nil))) (pss_cons (ps_if (PW.pt (pw_or (pt_cmpR op_lt (pv 4) pe_int (nomark _)) (pw_or1 (pt_cmpR op_ge (pv 4) (pv 1) (nomark _))))) (pss_one (ps_ret pe_bl)) pss_nil)
    (pss_one (ps_if (PW.pt (pw_or (pt_not (pt_val (pe_callH h_law_within (hr.mono (by omega)) (by rfl) (pa_cons (pv 5) (pa_cons (pe_ix (r := rIxT K) ix_tup (pe_ix (r := rIxL K) ix_list (pv 0) (pv 4) (fun _ _ => rfl)) pe_int (fun _ _ => rfl)) pa_nil))))) (pw_or1 (pt_not (pt_val (pe_callH h_law_within (hr.mono (by omega)) (by rfl) (pa_cons (pe_ix (r := rIxT K) ix_tup (pe_ix (r := rIxL K) ix_list (pv 0) (pv 4) (fun _ _ => rfl)) pe_int (fun _ _ => rfl)) (pa_cons (pv 5) pa_nil)))))))) (pss_one (ps_ret pe_bl)) pss_nil))))
    (pss_one (ps_ret pe_bl)))))), ?_⟩
  rintro ds d hl ⟨lines, k, ln, rfl, hk, okc, rok, ft, ll, tells, rfl⟩
  left
  obtain ⟨c, r, us⟩ := ln
  dsimp only at rok ft ll tells
  have oc : OkC c := okc _ (List.mem_of_getElem? hk)
  obtain ⟨gc, wc⟩ := oc
  have lowm : ∀ {m : Cl}, OkC m → LowC m := fun {m} h => cl_low h.2 h.1
  have rl : ruLow r := by
    cases r with
    | fm w f => exact Nat.le_trans rok.2 (by decide)
    | more m => exact lowm rok
  have hkD : (lnsD lines)[k]? = some (Ln.mk c r us).toD := by unfold lnsD; rw [List.getElem?_map, hk]; rfl
  have j : ∀ {ρ : Rho}, ρ[0]? = some (some (.list (lnsD lines))) → ρ[1]? = some (some (.int (k : Int))) → PuE K (tOp (rIxL K) (tVar 0) (tVar 1)) ρ (Ln.mk c r us).toD := fun {ρ} h h2 => pu_ixL (ds := lnsD lines) (i := (k : Int)) (pu_var h) (pu_var h2) (atI_nat hkD)
  have j0 : ∀ {ρ : Rho}, ρ[0]? = some (some (.list (lnsD lines))) → ρ[1]? = some (some (.int (k : Int))) → PuE K (tOp (rIxT K) (tOp (rIxL K) (tVar 0) (tVar 1)) (tC (.int 0))) ρ c.toD := fun {ρ} h h2 => pu_ixT (ds := [c.toD, r.toD, intsD us]) (j h h2) (pu_int 0) (tix0 _ _ _)
  have j1 : ∀ {ρ : Rho}, ρ[0]? = some (some (.list (lnsD lines))) → ρ[1]? = some (some (.int (k : Int))) → PuE K (tOp (rIxT K) (tOp (rIxL K) (tVar 0) (tVar 1)) (tC (.int 1))) ρ r.toD := fun {ρ} h h2 => pu_ixT (ds := [c.toD, r.toD, intsD us]) (j h h2) (pu_int 1) (tix1 _ _ _)
  have j2 : ∀ {ρ : Rho}, ρ[0]? = some (some (.list (lnsD lines))) → ρ[1]? = some (some (.int (k : Int))) → PuE K (tOp (rIxT K) (tOp (rIxL K) (tVar 0) (tVar 1)) (tC (.int 2))) ρ (intsD us) := fun {ρ} h h2 => pu_ixT (ds := [c.toD, r.toD, intsD us]) (j h h2) (pu_int 2) (tix2 _ _ _ _)
  refine pus_set (d := optD (lwants c r)) (pu_call (pu_cons (j0 rfl rfl) (pu_cons (j1 rfl rfl) pu_nil)) rfl ⟨c, r, rfl, cl_low wc gc, rl, rfl⟩) (pus_set (d := intsD us) (j2 rfl rfl) ?_)
  obtain ⟨ws, e, wl, wb⟩ := lwants_besideC ft
  rw [e]
  have wm := wants_mid ⟨gc, wc⟩ rok ft
  have wlow : ∀ w ∈ ws, LowC w := fun w hw => by
    cases r with
    | fm v f =>
      have : ws = wants c (.fm v f) := by
        rw [lwants_eq, ft, if_pos rfl] at e
        exact (Option.some.inj e).symm
      rw [this] at hw
      have m := wm.1 w hw
      exact ⟨m.gd.1.sh, m.gd.2.sh, by have := m.l1; omega, by have := m.l2; omega⟩
    | more m =>
      rw [lwants_more, ft, if_pos rfl] at e
      have : ws = [m] := (Option.some.inj e).symm
      rw [this] at hw
      rw [List.mem_singleton.mp hw]
      exact lowm rok
  have nU : (us.map PyData.int).length = us.length := List.length_map _
  refine pus_skip (pu_or_r ((pu_tTest (pu_isN (pu_var rfl))).cast rfl) ((pu_tTest (pu_neI (pu_len_l (ds := ws.map Cl.toD) (pu_var rfl)) (pu_len_l (ds := us.map PyData.int) (pu_var rfl)))).cast ?_)) ?_
  · rw [List.length_map, nU, decide_eq_true (by omega)]
    rfl
  have low : ∀ (i : Nat), i < lines.length → ∀ {ρ : Rho}, ρ[0]? = some (some (.list (lnsD lines))) → ρ[4]? = some (some (.int (i : Int))) → LowC (clAt lines i) ∧ PuE K (tOp (rIxT K) (tOp (rIxL K) (tVar 0) (tVar 4)) (tC (.int 0))) ρ (clAt lines i).toD := fun i il ρ h0 h4 => by
    obtain ⟨q1, q2⟩ := lns_at il
    rw [q2]
    exact ⟨lowm (okc _ (List.getElem_mem il)), pu_ixT (ds := [(lines[i]).c.toD, (lines[i]).r.toD, intsD (lines[i]).u]) (pu_ixL (ds := lnsD lines) (i := (i : Int)) (pu_var h0) (pu_var h4) q1) (pu_int 0) (tix0 _ _ _)⟩
  have kl : k < lines.length := (List.getElem?_eq_some_iff.mp hk).1
  refine pus_scanG (vs := [4, 5]) (xs := us.zip ws) (td := fun p => .tuple [.int p.1, p.2.toD]) (fun p => True)
    (PuI.cast (pui_zip (ds := us.map PyData.int) (es := ws.map Cl.toD) (pu_var (i := 3) rfl) (pu_var (i := 2) rfl)) (by rw [List.zip_map, List.map_map]; rfl)) (fun p hp g => ⟨_, pug_two 4 5, ?_⟩) (fun p hp g => absurd trivial g) (fun all => pus_ret (pu_bl true)) fun nall => absurd (fun _ _ => trivial) nall
  obtain ⟨i, hi⟩ := List.getElem?_of_mem hp
  obtain ⟨h1, h2⟩ := List.getElem?_zip_eq_some.mp hi
  obtain ⟨w', hw', al⟩ := wb i p.2 h2
  obtain ⟨u, eu, ul, al2⟩ := tells i w' hw'
  rw [h1] at eu
  have e1 : p.1 = (u : Int) := Option.some.inj eu
  have pw := (List.of_mem_zip hp).2
  obtain ⟨s1, s2⟩ := alike_subC.1 (al2.trans al.symm)
  rw [e1]
  have ta : ∀ {ρ : Rho}, ρ[4]? = some (some (.int (u : Int))) → ρ[1]? = some (some (.int (k : Int))) → PuT K (tOr (tTest (tOp (rI0 fun i j => .bl (decide (i < j))) (tVar 4) (tC (.int 0)))) (tTest (tOp (rI0 fun i j => .bl (decide (j ≤ i))) (tVar 4) (tVar 1)))) ρ false := fun {ρ} h h1 =>
    pu_or_r ((pu_tTest (pu_lt (pu_var h) (pu_int 0))).cast (decide_eq_false (by omega))) ((pu_tTest (pu_ge (pu_var h) (pu_var h1))).cast (decide_eq_false (by omega)))
  have tb : ∀ {ρ : Rho}, ρ[0]? = some (some (.list (lnsD lines))) → ρ[4]? = some (some (.int (u : Int))) → ρ[5]? = some (some p.2.toD) →
      PuT K (tOr (tNot (tB (tCall (spPu K 2 gStandsIn) [] E0 (tCons (tVar 5) (tCons (tOp (rIxT K) (tOp (rIxL K) (tVar 0) (tVar 4)) (tC (.int 0))) tNil))))) (tNot (tB (tCall (spPu K 2 gStandsIn) [] E0 (tCons (tOp (rIxT K) (tOp (rIxL K) (tVar 0) (tVar 4)) (tC (.int 0))) (tCons (tVar 5) tNil)))))) ρ false := fun {ρ} h0 h4 h5 => by
    obtain ⟨lc, hp⟩ := low u (by omega) h0 h4
    exact pu_or_r (pu_tNot (b := true) (pu_tB (pu_call (pu_cons (pu_var h5) (pu_cons hp pu_nil)) rfl ⟨p.2, clAt lines u, rfl, wlow _ pw, lc, by rw [decide_eq_true s2]⟩))) (pu_tNot (b := true) (pu_tB (pu_call (pu_cons hp (pu_cons (pu_var h5) pu_nil)) rfl ⟨clAt lines u, p.2, rfl, lc, wlow _ pw, by rw [decide_eq_true s1]⟩)))
  exact pus_forget 5 (pus_forget 4 (pus_skip (ta rfl rfl) (pus_if (b := false) (tb rfl rfl rfl) (fun z => nomatch z) fun _ => pus_next)))
/-- a chain whose lines the law takes for lines -/
structure WkG (G : Cl → Prop) (ls : List Ln) : Prop where
  wk : Wk ls
  ne : ls ≠ []
  ln : ∀ l ∈ ls, LnG G l
  ls : ls.length ≤ 4000000
theorem wk_at {ls : List Ln} (h : Wk ls) {k : Nat} {l : Ln} (e : ls[k]? = some l) : OkC l.c ∧ l.r.ok ∧ fits l.c l.r = true ∧ l.u.length = (wants l.c l.r).length ∧ ∀ (i : Nat) (w : Cl), (wants l.c l.r)[i]? = some w → ∃ j : Nat, l.u[i]? = some (j : Int) ∧ j < k ∧ Alike (clAt ls j) w := by
  obtain ⟨c, ru, ns, h1, h2, h3, h4, h5, h6, h7, h8⟩ := chn_atC h (i := k) (line := l.toD) (by rw [List.getElem?_map, e]; rfl)
  have kl := (List.getElem?_eq_some_iff.mp e).1
  have h2 : PyData.tuple [l.c.toD, l.r.toD, intsD l.u] = .tuple [c.toD, ru.toD, .list ns] := h2
  injection h2 with h2; injection h2 with e1 h2; injection h2 with e2 h2; injection h2 with e3 _; injection e3 with e3
  obtain rfl := clD_inj e1
  obtain rfl := ruD_inj e2
  subst e3
  rw [List.length_map] at h7
  refine ⟨⟨h3, h4⟩, h5, h6, h7, fun i w hw => ?_⟩
  have il : i < l.u.length := by have := (List.getElem?_eq_some_iff.mp hw).1; omega
  obtain ⟨j, c', j1, j2, j3⟩ := h8 (.int l.u[i], w) (List.mem_of_getElem? (List.getElem?_zip_eq_some.mpr ⟨by rw [List.getElem?_map, List.getElem?_eq_getElem il]; rfl, hw⟩))
  have j1 : PyData.int l.u[i] = .int (j : Int) := j1
  injection j1 with j1
  have jk : j < k := by
    have := (List.getElem?_eq_some_iff.mp j2).1
    rw [List.length_take] at this
    omega
  rw [List.getElem?_take_of_lt jk, clAt_at (by omega)] at j2
  rw [← Option.some.inj j2] at j3
  exact ⟨j, by rw [List.getElem?_eq_getElem il, j1], jk, j3⟩
def gWalks (G : Cl → Prop) (ds : List PyData) (d : PyData) : Prop := ∃ ls : List Ln, ds = [.list (lnsD ls)] ∧ WkG G ls ∧ d = .bool true
theorem scWalks : FnScope ["_law_lines", "_law_line", "_law_at"] ["_law_lines"] (defScope sWalks) := ⟨rfl, rfl, rfl, by decide +kernel, rfl, by decide +kernel, by decide +kernel⟩
theorem ok_walks {G : Cl → Prop} (D : Df K mg "_law_walks" sWalks ["_law_lines"] f fd) (B : Blt mg) (b_range : mg "range" = none) (h_law_line_is : Has P w K mg base 17 "_law_line_is" ["_law_line"] (spPu K 1 (gLnIs G))) (h_law_follows : Has P w K mg base 3 "_law_follows" ["_law_lines", "_law_at"] (spPu K 2 gFol7)) :
    FnOk P w K mg base CX0 18 f fd ["_law_lines"] (spPu K 1 (gWalks G)) := by
  refine ok_pu D scWalks fun cdv A outer s H E hr => ?_
  refine ⟨_, (pss_cons (ps_if (PW.pt (pw_or (pt_not (pt_val (pe_callB (r := rIsi K) call_isi (by rfl) B.isinstance bt_isinstance (pa_cons (pv 0) (pa_cons (pe_bltn (v := .ty "list") (by rfl) B.list bt_list rfl) pa_nil))))) (pw_or (pt_cmpR op_eq (pe_callB (r := rLn K) call_len_seq (by rfl) B.len PySem.boot_len (pa_cons (pv 0) pa_nil)) pe_int (nomark _)) (pw_or1 (pt_not (pt_val (pe_callB (r := rAll K) (cr_all rfl) (by rfl) B.all bt_all (pa_cons (pe_lc (own := [("_law_line", 1)]) (g := gName 1) (tt := tYes) rfl scWalks.nd (pi_list (pv 0)) (blkOk_by (N := ["_law_lines", "_law_line", "_law_at"]) (sc := defScope sWalks) (by decide +kernel)) (fun _ _ _ _ _ => (pg_name (i := 1) scWalks.nd rfl (by first | exact Or.inl rfl | exact Or.inr rfl))) (fun _ _ _ _ _ => pts_nil) (fun _ _ _ _ _ => (pe_callH h_law_line_is (hr.mono (by omega)) (by rfl) (pa_cons (pv 1) pa_nil)))) pa_nil)))))))) (pss_one (ps_ret pe_bl)) pss_nil)
    (pss_one (ps_ret (pe_callB (r := rAll K) (cr_all rfl) (by rfl) B.all bt_all (pa_cons (pe_lc (own := [("_law_at", 2)]) (g := gName 2) (tt := tYes) rfl scWalks.nd (pi_range1 (by rfl) b_range (pa_cons (pe_callB (r := rLn K) call_len_seq (by rfl) B.len PySem.boot_len (pa_cons (pv 0) pa_nil)) pa_nil)) (blkOk_by (N := ["_law_lines", "_law_line", "_law_at"]) (sc := defScope sWalks) (by decide +kernel)) (fun _ _ _ _ _ => (pg_name (i := 2) scWalks.nd rfl (by first | exact Or.inl rfl | exact Or.inr rfl))) (fun _ _ _ _ _ => pts_nil) (fun _ _ _ _ _ => (pe_callH h_law_follows (hr.mono (by omega)) (by rfl) (pa_cons (pv 0) (pa_cons (pv 2) pa_nil))))) pa_nil))))), ?_⟩
  rintro ds d hl ⟨ls, rfl, ⟨wk, ne, ln, sz⟩, rfl⟩
  left
  have szl : (4000000 : Nat) ≤ sizeLine := by rw [sizeLine_eq]; decide
  have lp := List.length_pos_iff.mpr ne
  have lD : (lnsD ls).length = ls.length := List.length_map _
  have okc : ∀ l ∈ ls, OkC l.c := fun l hl => by
    obtain ⟨k, hk⟩ := List.getElem?_of_mem hl
    exact (wk_at wk hk).1
  have allT : ∀ {α : Type} (xs : List α), (xs.map fun _ => true).all id = true := fun xs => by rw [List.all_map]; exact List.all_eq_true.mpr fun _ _ => rfl
  refine pus_skip (pu_or_r (pu_tNot (b := true) (pu_tB (pu_isLst (d := .list (lnsD ls)) (pu_var rfl)))) (pu_or_r ((pu_tTest (pu_eqI (pu_len_l (ds := lnsD ls) (pu_var rfl)) (pu_int 0))).cast (decide_eq_false (by rw [lD]; omega))) (pu_tNot (b := true) (pu_tB ?_)))) ?_
  · rw [← allT ls]
    refine pu_all ?_
    rw [List.map_map]
    exact pu_map' (xs := ls) (td := Ln.toD) (pui_list (pu_var rfl)) (by omega) _ fun x hx => pu_call (pu_cons (pu_var (d := x.toD) rfl) pu_nil) rfl ⟨x, rfl, ln x hx, rfl⟩
  · refine pus_ret ?_
    rw [← allT (List.range ls.length)]
    refine pu_all ?_
    rw [List.map_map]
    refine pu_map' (xs := List.range ls.length) (td := fun i => .int (0 + (i : Int))) (by
      have := pui_rng1 (K := K) (te := tCB (rLn K) (tCons (tVar 0) tNil)) (ρ := startD ["_law_lines", "_law_line", "_law_at"] [.list (lnsD ls)]) (pu_len_l (ds := lnsD ls) (pu_var rfl)) (by rw [lD]; omega) (by rw [lD]; omega)
      rw [lD] at this
      exact this) (by rw [List.length_range]; omega) _ fun k hk => ?_
    have kl := List.mem_range.mp hk
    have hl : ls[k]? = some ls[k] := List.getElem?_eq_getElem kl
    obtain ⟨q1, q2, q3, q4, q5⟩ := wk_at wk hl
    exact pu_call (pu_cons (pu_var (d := .list (lnsD ls)) rfl) (pu_cons (pu_var (d := .int (0 + (k : Int))) rfl) pu_nil)) rfl ⟨ls, k, ls[k], by rw [Int.zero_add], hl, okc, q2, q3, q4, q5, rfl⟩
end
end Lm
set_option Elab.async false
set_option linter.all false
set_option maxRecDepth 100000
set_option maxHeartbeats 1000000
namespace Lm
open PySem PySem.Spec PyProof.Rows L2
/-! ### worlds, truth -/
def inW (cell : Int) (k : Nat) : Bool := decide ((cell + 7919 * (k : Int) * (k : Int)) * 48271 % 65537 / 7 % 2 = 1)
def worldN (cell base : Int) : List Int := ((List.range (countN base).toNat).filter (inW cell)).map fun (k : Nat) => signN (k : Int) base
def gWorld (ds : List PyData) (d : PyData) : Prop := ∃ cell base : Int, ds = [.int cell, .int base] ∧ d = intsD (worldN cell base)
def setOf (ws : List Int) (i : Int) : Bool := decide (i ∈ ws)
def gTrue (n : Nat) (ds : List PyData) (d : PyData) : Prop := ∃ (f : Fm) (ws : List Int), ds = [f.toD, intsD ws] ∧ f.dep ≤ n ∧ ws.length ≤ 100 ∧ d = .bool (f.tr (setOf ws))
def gHolds (ds : List PyData) (d : PyData) : Prop := ∃ (c : Cl) (ws : List Int) (b : Bool), ds = [c.toD, intsD ws] ∧ (∀ f ∈ c.1, f.dep ≤ 13) ∧ (∀ f ∈ c.2, f.dep ≤ 13) ∧ c.1.length ≤ 1000 ∧ c.2.length ≤ 1000 ∧ ws.length ≤ 100 ∧ d = .bool b ∧ (b = true ↔ HoldsC (setOf ws) c)
theorem world_len (cell base : Int) : (worldN cell base).length ≤ 40 := by
  unfold worldN
  rw [List.length_map]
  have := List.length_filter_le (inW cell) (List.range (countN base).toNat)
  rw [List.length_range] at this
  have := (countN_at base).2.2
  omega
section
variable {K : PySem.W.Frag} {ρ : Rho} {te ta tb : TE}
/-- a number in a list of numbers -/
theorem pu_inI {ns : List Int} {i : Int} (h1 : PuE K ta ρ (.int i)) (h2 : PuE K tb ρ (intsD ns)) : PuE K (tOp (rInD K) ta tb) ρ (.bool (decide (i ∈ ns))) := by
  have si : Shp 1 (intsD ns) := shp_lst fun d hd => by
    obtain ⟨i, _, rfl⟩ := List.mem_map.mp hd
    exact shp_int i
  refine (pu_inD (d := .int i) (ds := ns.map PyData.int) h1 h2 ((shp_int i).ok (by decide)) (si.ok (by decide))).cast ?_
  congr 1
  rw [List.any_map, Bool.eq_iff_iff, List.any_eq_true, decide_eq_true_eq]
  constructor
  · rintro ⟨x, hx, e⟩
    have e : PyData.eqv (.int x) (.int i) = true := e
    rw [Fm.e_int, beq_iff_eq] at e
    rw [← e]
    exact hx
  · intro h
    refine ⟨i, h, ?_⟩
    show PyData.eqv (.int i) (.int i) = true
    rw [Fm.e_int]
    exact beq_self_eq_true i
end
section
variable {P : Program} {w : World} {K : PySem.W.Frag} {mg : Str → Option Value} {base : Heap} {f : Addr} {fd : FuncData}
theorem scLTrue : FnScope ["_law_f", "_law_world"] ["_law_f", "_law_world"] (defScope sLTrue) := ⟨rfl, rfl, rfl, by decide +kernel, rfl, by decide +kernel, by decide +kernel⟩
theorem ok_ltrue6 {n : Nat} (D : Df K mg "_law_true" sLTrue ["_law_f", "_law_world"] f fd) (h_law_true : Has P w K mg base (n + 1) "_law_true" ["_law_f", "_law_world"] (spPu K 2 (gTrue n))) : FnOk P w K mg base CX0 (n + 2) f fd ["_law_f", "_law_world"] (spPu K 2 (gTrue (n + 1))) := by
  refine ok_pu D scLTrue fun cdv A outer s H E hr => ?_
  have hu : (A.deeper (envOfC "_law_true" (defScope sLTrue) s.heap.objs.size f cdv)).units + 65 < cLine := by have := hr.un; omega
  refine ⟨_, (pss_cons (ps_if (pt_cmpR op_eq (pe_ix (r := rIxT K) ix_tup (pv 0) pe_int (fun _ _ => rfl)) pe_str (nomark _)) (pss_one (ps_ret (pe_cmpR (r := rInD K) (op_inD hu) (pe_ix (r := rIxT K) ix_tup (pv 0) pe_int (fun _ _ => rfl)) (pv 1) (by rfl)))) pss_nil)
    (pss_cons (ps_if (pt_cmpR op_eq (pe_ix (r := rIxT K) ix_tup (pv 0) pe_int (fun _ _ => rfl)) pe_str (nomark _)) (pss_one (ps_ret (pe_not (pe_callH h_law_true (hr.mono (by omega)) (by rfl) (pa_cons (pe_ix (r := rIxT K) ix_tup (pv 0) pe_int (fun _ _ => rfl)) (pa_cons (pv 1) pa_nil)))))) pss_nil)
    (pss_cons (ps_if (pt_cmpR op_eq (pe_ix (r := rIxT K) ix_tup (pv 0) pe_int (fun _ _ => rfl)) pe_str (nomark _)) (pss_one (ps_ret (pe_and (pe_callH h_law_true (hr.mono (by omega)) (by rfl) (pa_cons (pe_ix (r := rIxT K) ix_tup (pv 0) pe_int (fun _ _ => rfl)) (pa_cons (pv 1) pa_nil))) (pe_one (pe_callH h_law_true (hr.mono (by omega)) (by rfl) (pa_cons (pe_ix (r := rIxT K) ix_tup (pv 0) pe_int (fun _ _ => rfl)) (pa_cons (pv 1) pa_nil))))))) pss_nil)
    (pss_cons (ps_if (pt_cmpR op_eq (pe_ix (r := rIxT K) ix_tup (pv 0) pe_int (fun _ _ => rfl)) pe_str (nomark _)) (pss_one (ps_ret (pe_or (pe_callH h_law_true (hr.mono (by omega)) (by rfl) (pa_cons (pe_ix (r := rIxT K) ix_tup (pv 0) pe_int (fun _ _ => rfl)) (pa_cons (pv 1) pa_nil))) (pe_one (pe_callH h_law_true (hr.mono (by omega)) (by rfl) (pa_cons (pe_ix (r := rIxT K) ix_tup (pv 0) pe_int (fun _ _ => rfl)) (pa_cons (pv 1) pa_nil))))))) pss_nil)
    (pss_one (ps_ret (pe_or (pe_not (pe_callH h_law_true (hr.mono (by omega)) (by rfl) (pa_cons (pe_ix (r := rIxT K) ix_tup (pv 0) pe_int (fun _ _ => rfl)) (pa_cons (pv 1) pa_nil)))) (pe_one (pe_callH h_law_true (hr.mono (by omega)) (by rfl) (pa_cons (pe_ix (r := rIxT K) ix_tup (pv 0) pe_int (fun _ _ => rfl)) (pa_cons (pv 1) pa_nil))))))))))), ?_⟩
  rintro ds d hl ⟨g, ws, rfl, hd, wl, rfl⟩
  left
  have hd0 : ∀ {x : Str} {r : List PyData} {ρ : Rho}, ρ[0]? = some (some (.tuple (.str x :: r))) → PuE K (tOp (rIxT K) (tVar 0) (tC (.int 0))) ρ (.str x) := fun {x r ρ} h => pu_ixT (ds := .str x :: r) (pu_var h) (pu_int 0) (atI_nat (j := 0) rfl)
  have no0 : ∀ {x y : Str} {r : List PyData} {ρ : Rho}, ρ[0]? = some (some (.tuple (.str x :: r))) → ¬ x = y → PuT K (tTest (tOp rEq (tOp (rIxT K) (tVar 0) (tC (.int 0))) (tC (.str y)))) ρ false := fun h n => pu_eqS0 (hd0 h) (pu_str _) n
  have rcl : ∀ (k : Int) (x : Fm) {ρ : Rho} {r : List PyData}, ρ[0]? = some (some (.tuple r)) → atI r k = some x.toD → x.dep ≤ n → ρ[1]? = some (some (intsD ws)) → PuE K (tCall (spPu K 2 (gTrue n)) [] E0 (tCons (tOp (rIxT K) (tVar 0) (tC (.int k))) (tCons (tVar 1) tNil))) ρ (.bool (x.tr (setOf ws))) := fun k x ρ r h e dx h1 =>
    pu_call (pu_cons (pu_ixT (pu_var h) (pu_int k) e) (pu_cons (pu_var h1) pu_nil)) rfl ⟨x, ws, rfl, dx, wl, rfl⟩
  cases g with
  | sg i =>
    refine pus_take (pu_eqS1 (hd0 (r := [.int i]) rfl) (pu_str _) rfl) (pus_ret (pu_inI (pu_ixT (ds := [.str ("sign" : Str), .int i]) (pu_var rfl) (pu_int 1) (tix1 _ _ _)) (pu_var rfl)))
  | no g =>
    have hd : g.dep + 1 ≤ n + 1 := hd
    refine pus_skip (no0 (r := [g.toD]) rfl (by decide +kernel)) ?_
    exact pus_take (pu_eqS1 (hd0 (r := [g.toD]) rfl) (pu_str _) rfl) (pus_ret (pu_not (rcl 1 g (r := [.str ("not" : Str), g.toD]) rfl (tix1 _ _ _) (by omega) rfl)))
  | bi w g h =>
    have hd : max g.dep h.dep + 1 ≤ n + 1 := hd
    refine pus_skip (no0 (x := w.txt) (r := [g.toD, h.toD]) rfl (txt_sign w)) ?_
    refine pus_skip (no0 (x := w.txt) (r := [g.toD, h.toD]) rfl (txt_not w)) ?_
    have a : ∀ {ρ : Rho}, ρ[0]? = some (some (Fm.bi w g h).toD) → ρ[1]? = some (some (intsD ws)) → PuE K (tCall (spPu K 2 (gTrue n)) [] E0 (tCons (tOp (rIxT K) (tVar 0) (tC (.int 1))) (tCons (tVar 1) tNil))) ρ (.bool (g.tr (setOf ws))) := fun z z1 => rcl 1 g z (tix1 _ _ _) (by omega) z1
    have b : ∀ {ρ : Rho}, ρ[0]? = some (some (Fm.bi w g h).toD) → ρ[1]? = some (some (intsD ws)) → PuE K (tCall (spPu K 2 (gTrue n)) [] E0 (tCons (tOp (rIxT K) (tVar 0) (tC (.int 2))) (tCons (tVar 1) tNil))) ρ (.bool (h.tr (setOf ws))) := fun z z1 => rcl 2 h z (tix2 _ _ _ _) (by omega) z1
    cases w with
    | an => exact pus_take (pu_eqS1 (hd0 (x := Bw.an.txt) (r := [g.toD, h.toD]) rfl) (pu_str _) rfl) (pus_ret (pu_and (a rfl rfl) fun _ => b rfl rfl))
    | o =>
      refine pus_skip (no0 (x := Bw.o.txt) (r := [g.toD, h.toD]) rfl (by decide +kernel)) ?_
      exact pus_take (pu_eqS1 (hd0 (x := Bw.o.txt) (r := [g.toD, h.toD]) rfl) (pu_str _) rfl) (pus_ret (pu_or (a rfl rfl) fun _ => b rfl rfl))
    | th =>
      refine pus_skip (no0 (x := Bw.th.txt) (r := [g.toD, h.toD]) rfl (by decide +kernel)) ?_
      refine pus_skip (no0 (x := Bw.th.txt) (r := [g.toD, h.toD]) rfl (by decide +kernel)) ?_
      exact pus_ret (pu_or (pu_not (a rfl rfl)) fun _ => b rfl rfl)
theorem all_ltrue6 (D : Df K mg "_law_true" sLTrue ["_law_f", "_law_world"] f fd) : ∀ n : Nat, Has P w K mg base (n + 1) "_law_true" ["_law_f", "_law_world"] (spPu K 2 (gTrue n))
  | 0 => by
    have no : ∀ vs H Q E, ¬ spPu K 2 (gTrue 0) vs H Q E := fun vs H Q E h => by
      obtain ⟨M, ds, d, _, _, _, ⟨g, _, _, hm, _⟩, _⟩ := h
      have := g.dep_pos
      omega
    exact D.has ⟨fun vs H Q E h => absurd h (no vs H Q E), fun A outer s H args us vs Q E _ _ _ _ h => absurd h (no vs H Q E)⟩
  | n + 1 => D.has (ok_ltrue6 D (all_ltrue6 D n))
theorem scLHolds : FnScope ["_law_claim_here", "_law_world", "_law_f"] ["_law_claim_here", "_law_world"] (defScope sLHolds) := ⟨rfl, rfl, rfl, by decide +kernel, rfl, by decide +kernel, by decide +kernel⟩
theorem ok_lholds6 (D : Df K mg "_law_holds" sLHolds ["_law_claim_here", "_law_world"] f fd) (B : Blt mg) (b_any : mg "any" = none) (h_law_true : Has P w K mg base 14 "_law_true" ["_law_f", "_law_world"] (spPu K 2 (gTrue 13))) : FnOk P w K mg base CX0 15 f fd ["_law_claim_here", "_law_world"] (spPu K 2 gHolds) := by
  refine ok_pu D scLHolds fun cdv A outer s H E hr => ?_
  refine ⟨_, (pss_cons (ps_if (pt_not (pt_val (pe_callB (r := rAll K) (cr_all rfl) (by rfl) B.all bt_all (pa_cons (pe_lc (own := [("_law_f", 2)]) (g := gName 2) (tt := tYes) rfl scLHolds.nd (pi_list (pe_ix (r := rIxT K) ix_tup (pv 0) pe_int (fun _ _ => rfl))) (blkOk_by (N := ["_law_claim_here", "_law_world", "_law_f"]) (sc := defScope sLHolds) (by decide +kernel)) (fun _ _ _ _ _ => (pg_name (i := 2) scLHolds.nd rfl (by first | exact Or.inl rfl | exact Or.inr rfl))) (fun _ _ _ _ _ => pts_nil) (fun _ _ _ _ _ => (pe_callH h_law_true (hr.mono (by omega)) (by rfl) (pa_cons (pv 2) (pa_cons (pv 1) pa_nil))))) pa_nil)))) (pss_one (ps_ret pe_bl)) pss_nil)
    (pss_one (ps_ret (pe_callB (r := rAny K) (cr_any rfl) (by rfl) b_any bt_any (pa_cons (pe_lc (own := [("_law_f", 2)]) (g := gName 2) (tt := tYes) rfl scLHolds.nd (pi_list (pe_ix (r := rIxT K) ix_tup (pv 0) pe_int (fun _ _ => rfl))) (blkOk_by (N := ["_law_claim_here", "_law_world", "_law_f"]) (sc := defScope sLHolds) (by decide +kernel)) (fun _ _ _ _ _ => (pg_name (i := 2) scLHolds.nd rfl (by first | exact Or.inl rfl | exact Or.inr rfl))) (fun _ _ _ _ _ => pts_nil) (fun _ _ _ _ _ => (pe_callH h_law_true (hr.mono (by omega)) (by rfl) (pa_cons (pv 2) (pa_cons (pv 1) pa_nil))))) pa_nil))))), ?_⟩
  rintro ds d hl ⟨c, ws, b, rfl, d1, d2, l1, l2, wl, rfl, hb⟩
  left
  have c0 : ∀ {ρ : Rho}, ρ[0]? = some (some c.toD) → PuE K (tOp (rIxT K) (tVar 0) (tC (.int 0))) ρ (lsD c.1) := fun {ρ} h => pu_ixT (pu_cl (pu_var h)) (pu_int 0) (cix0 c)
  have c1 : ∀ {ρ : Rho}, ρ[0]? = some (some c.toD) → PuE K (tOp (rIxT K) (tVar 0) (tC (.int 1))) ρ (lsD c.2) := fun {ρ} h => pu_ixT (pu_cl (pu_var h)) (pu_int 1) (cix1 c)
  have mp : ∀ (L : List Fm) {ρ : Rho} {te : TE}, PuE K te ρ (lsD L) → L.length ≤ 1000 → (∀ f ∈ L, f.dep ≤ 13) → ρ.length = 3 → ρ[1]? = some (some (intsD ws)) → PuE K (tLc (iList K te) (gName 2) tYes (tCall (spPu K 2 (gTrue 13)) [] E0 (tCons (tVar 2) (tCons (tVar 1) tNil))) [2]) ρ (.list ((L.map fun f => f.tr (setOf ws)).map PyData.bool)) := fun L ρ te h l dL lr h1 => by
    rw [List.map_map]
    refine pu_map (xs := L) (td := Fm.toD) (pui_list h) (by omega) _ fun x hx => ?_
    refine pu_call (pu_cons (pu_var (d := x.toD) ?_) (pu_cons (pu_var (d := intsD ws) ?_) pu_nil)) rfl ⟨x, ws, rfl, dL x hx, wl, rfl⟩
    · rw [List.getElem?_set_self (by omega)]
    · rw [List.getElem?_set_ne (by decide)]
      exact h1
  have ta := pu_tNot (pu_tB (pu_all (mp c.1 (ρ := startD ["_law_claim_here", "_law_world", "_law_f"] [c.toD, intsD ws]) (c0 rfl) l1 d1 rfl rfl)))
  by_cases a : ∀ f ∈ c.1, f.tr (setOf ws) = true
  · have ea : (c.1.map fun f => f.tr (setOf ws)).all id = true := by rw [all_dec]; exact decide_eq_true a
    refine pus_skip (ta.cast (by rw [ea]; rfl)) ?_
    have eb : b = (c.2.map fun f => f.tr (setOf ws)).any id := by
      rw [Bool.eq_iff_iff, hb, List.any_map, List.any_eq_true]
      exact ⟨fun h => h a, fun h _ => h⟩
    rw [eb]
    exact pus_ret (pu_any (mp c.2 (c1 rfl) l2 d2 rfl rfl))
  · have ea : (c.1.map fun f => f.tr (setOf ws)).all id = false := by rw [all_dec]; exact decide_eq_false a
    have eb : b = true := hb.2 fun h => absurd h a
    rw [eb]
    exact pus_take (ta.cast (by rw [ea]; rfl)) (pus_ret (pu_bl true))
end
end Lm
set_option Elab.async false
set_option linter.all false
set_option maxRecDepth 100000
set_option maxHeartbeats 1000000
namespace Lm
open PySem PySem.Spec PyProof.Rows L2
theorem few_ints : ∀ (n : Nat) (l : List Int), l.Nodup → (∀ i ∈ l, 0 ≤ i ∧ i < (n : Int)) → l.length ≤ n
  | 0, l, _, h => by
    cases l with
    | nil => exact Nat.le_refl _
    | cons x r =>
      have := h x List.mem_cons_self
      omega
  | n + 1, l, nd, h => by
    have ih := few_ints n (l.filter fun x => x != (n : Int)) (nd.filter _) fun i hi => by
      rw [List.mem_filter] at hi
      have := h i hi.1
      have : i ≠ (n : Int) := by simpa using hi.2
      omega
    have e := List.length_eq_countP_add_countP (p := fun x : Int => x == (n : Int)) (l := l)
    have c : l.countP (fun x => x == (n : Int)) ≤ 1 := by
      have := List.nodup_iff_count.mp nd (n : Int)
      exact this
    have f : l.countP (fun x => !(x == (n : Int))) = (l.filter fun x => x != (n : Int)).length := by
      rw [List.countP_eq_length_filter]
      rfl
    have e3 : l.countP (fun a => decide ¬(a == (n : Int)) = true) = l.countP (fun x => !(x == (n : Int))) := by
      congr 1
      funext a
      cases a == (n : Int) <;> rfl
    rw [e3] at e
    omega
def G7 (c : Cl) : Prop := CS c ∧ wordsC c ≤ 60
section
variable {K : PySem.W.Frag} {ρ : Rho} {ta : TE}
theorem pu_lenSet {ns : List Int} (h : PuE K ta ρ (intsD ns)) (nd : ns.Nodup) (l : ns.length ≤ 4000) : PuE K (RZ.tLenSetI K ta) ρ (.int (ns.length : Int)) := fun M σ H hid en Q q => h M σ H hid en _ fun v H1 e1 hv => by
  obtain ⟨a, vs, rfl, hs, ha⟩ := dp_lstI hv
  rw [dpAll_nums ha] at hs
  exact ⟨a, ns, rfl, vis_sub.seq hs, nd, l, q _ H1 e1 (.int _)⟩
end
section
variable {P : Program} {w : World} {K : PySem.W.Frag} {mg : Str → Option Value} {base : Heap} {f : Addr} {fd : FuncData}
def gRow7 (ds : List PyData) (d : PyData) : Prop := ∃ L : List Fm, ds = [lsD L] ∧ Gd L ∧ L.Nodup ∧ L.length ≤ 60 ∧ d = .bool true
theorem scLRowIs : FnScope ["_law_row", "_law_f"] ["_law_row"] (defScope sLRowIs) := ⟨rfl, rfl, rfl, by decide +kernel, rfl, by decide +kernel, by decide +kernel⟩
theorem ok_row7 (D : Df K mg "_law_row_is" sLRowIs ["_law_row"] f fd) (B : Blt mg) (h_law_with : Has P w K mg base 1 "_law_with" ["_law_row", "_law_more"] (spPu K 2 gWith)) (h_law_formula_is : Has P w K mg base 14 "_law_formula_is" ["_law_f", "_law_deep_here"] (spPu K 2 (gFmIs 13))) : FnOk P w K mg base CX0 15 f fd ["_law_row"] (spPu K 1 gRow7) := by
  refine ok_pu D scLRowIs fun cdv A outer s H E hr => ?_
  refine ⟨_, (pss_cons (ps_if (PW.pt (pw_or (pt_not (pt_val (pe_callB (r := rIsi K) call_isi (by rfl) B.isinstance bt_isinstance (pa_cons (pv 0) (pa_cons (pe_bltn (v := .ty "list") (by rfl) B.list bt_list rfl) pa_nil))))) (pw_or1 (pt_cmpR op_ne (pe_callB (r := rLn K) call_len_seq (by rfl) B.len PySem.boot_len (pa_cons (pe_callH h_law_with (hr.mono (by omega)) (by rfl) (pa_cons (pv 0) (pa_cons (pe_lst pa_nil) pa_nil))) pa_nil)) (pe_callB (r := rLn K) call_len_seq (by rfl) B.len PySem.boot_len (pa_cons (pv 0) pa_nil)) (nomark _))))) (pss_one (ps_ret pe_bl)) pss_nil)
    (pss_one (ps_ret (pe_callB (r := rAll K) (cr_all rfl) (by rfl) B.all bt_all (pa_cons (pe_lc (own := [("_law_f", 1)]) (g := gName 1) (tt := tYes) rfl scLRowIs.nd (pi_list (pv 0)) (blkOk_by (N := ["_law_row", "_law_f"]) (sc := defScope sLRowIs) (by decide +kernel)) (fun _ _ _ _ _ => (pg_name (i := 1) scLRowIs.nd rfl (by first | exact Or.inl rfl | exact Or.inr rfl))) (fun _ _ _ _ _ => pts_nil) (fun _ _ _ _ _ => (pe_callH h_law_formula_is (hr.mono (by omega)) (by rfl) (pa_cons (pv 1) (pa_cons pe_int pa_nil))))) pa_nil))))), ?_⟩
  rintro ds d hl ⟨L, rfl, gL, nd, ll, rfl⟩
  left
  have ew : once (L ++ []) = L := by rw [List.append_nil, once_self nd]
  refine pus_skip (pu_or_r (pu_tNot (b := true) (pu_tB (pu_isLst (d := lsD L) (pu_var rfl)))) ((pu_tTest (pu_neI (pu_len_l (ds := L.map Fm.toD) ((pu_with (A := L) (B := []) (pu_var rfl) pu_l0 gL.sh sh_nil (by omega) (by decide)).cast (by rw [ew]; rfl))) (pu_len_l (ds := L.map Fm.toD) (pu_var rfl)))).cast (by rw [decide_eq_true rfl]; rfl))) (pus_ret ?_)
  have e : (L.map fun _ => true).all id = true := by rw [List.all_map]; exact List.all_eq_true.mpr fun _ _ => rfl
  rw [← e]
  refine pu_all ?_
  rw [List.map_map]
  exact pu_map (xs := L) (td := Fm.toD) (pui_list (pu_var rfl)) (by omega) _ fun x hx => pu_call (pu_cons (pu_var (d := x.toD) rfl) (pu_cons (pu_int 1) pu_nil)) rfl ⟨x, 1, rfl, (gL x hx).1, by have := (gL x hx).2; omega, by have := (gL x hx).2; omega, rfl⟩
theorem scLClaimIs : FnScope ["_law_claim_here", "_law_f"] ["_law_claim_here"] (defScope sLClaimIs) := ⟨rfl, rfl, rfl, by decide +kernel, rfl, by decide +kernel, by decide +kernel⟩
theorem ok_cl7 (D : Df K mg "_law_claim_is" sLClaimIs ["_law_claim_here"] f fd) (B : Blt mg) (b_sum : mg "sum" = none) (h_law_row_is : Has P w K mg base 15 "_law_row_is" ["_law_row"] (spPu K 1 gRow7)) (h_law_words : Has P w K mg base 15 "_law_words" ["_law_f"] (spPu K 1 (gLWords 14))) : FnOk P w K mg base CX0 16 f fd ["_law_claim_here"] (spPu K 1 (gClIs G7)) := by
  refine ok_pu D scLClaimIs fun cdv A outer s H E hr => ?_
  refine ⟨_, (pss_cons (ps_if (PW.pt (pw_or (pt_not (pt_val (pe_callB (r := rIsi K) call_isi (by rfl) B.isinstance bt_isinstance (pa_cons (pv 0) (pa_cons (pe_bltn (v := .ty "tuple") (by rfl) B.tuple bt_tuple rfl) pa_nil))))) (pw_or (pt_cmpR op_ne (pe_callB (r := rLn K) call_len_seq (by rfl) B.len PySem.boot_len (pa_cons (pv 0) pa_nil)) pe_int (nomark _)) (pw_or (pt_not (pt_val (pe_callH h_law_row_is (hr.mono (by omega)) (by rfl) (pa_cons (pe_ix (r := rIxT K) ix_tup (pv 0) pe_int (fun _ _ => rfl)) pa_nil)))) (pw_or1 (pt_not (pt_val (pe_callH h_law_row_is (hr.mono (by omega)) (by rfl) (pa_cons (pe_ix (r := rIxT K) ix_tup (pv 0) pe_int (fun _ _ => rfl)) pa_nil))))))))) (pss_one (ps_ret pe_bl)) pss_nil)
    (pss_one (ps_ret (pe_cmpR op_le (pe_callB (r := rSum K) (cr_sum rfl) (by rfl) b_sum bt_sum (pa_cons (pe_lc (own := [("_law_f", 1)]) (g := gName 1) (tt := tYes) rfl scLClaimIs.nd (pi_list (pe_op (r := rCatL K) op_catL (pe_ix (r := rIxT K) ix_tup (pv 0) pe_int (fun _ _ => rfl)) (pe_ix (r := rIxT K) ix_tup (pv 0) pe_int (fun _ _ => rfl)))) (blkOk_by (N := ["_law_claim_here", "_law_f"]) (sc := defScope sLClaimIs) (by decide +kernel)) (fun _ _ _ _ _ => (pg_name (i := 1) scLClaimIs.nd rfl (by first | exact Or.inl rfl | exact Or.inr rfl))) (fun _ _ _ _ _ => pts_nil) (fun _ _ _ _ _ => (pe_callH h_law_words (hr.mono (by omega)) (by rfl) (pa_cons (pv 1) pa_nil)))) pa_nil)) pe_int (nomark _))))), ?_⟩
  rintro ds d hl ⟨c, rfl, ⟨⟨gc, n1, n2⟩, wc⟩, rfl⟩
  left
  have wce : wordsC c = wordsS c.1 + wordsS c.2 := rfl
  have l1 := words_len c.1
  have l2 := words_len c.2
  have c0 : ∀ {ρ : Rho}, ρ[0]? = some (some c.toD) → PuE K (tOp (rIxT K) (tVar 0) (tC (.int 0))) ρ (lsD c.1) := fun {ρ} h => pu_ixT (pu_cl (pu_var h)) (pu_int 0) (cix0 c)
  have c1 : ∀ {ρ : Rho}, ρ[0]? = some (some c.toD) → PuE K (tOp (rIxT K) (tVar 0) (tC (.int 1))) ρ (lsD c.2) := fun {ρ} h => pu_ixT (pu_cl (pu_var h)) (pu_int 1) (cix1 c)
  refine pus_skip (pu_or_r (pu_tNot (b := true) (pu_tB (pu_isTup (d := c.toD) (pu_var rfl)))) (pu_or_r ((pu_tTest (pu_neI (pu_len_t (ds := [lsD c.1, lsD c.2]) (pu_var rfl)) (pu_int 2))).cast rfl) (pu_or_r (pu_tNot (b := true) (pu_tB (pu_call (pu_cons (c0 rfl) pu_nil) rfl ⟨c.1, rfl, gc.1, n1, by omega, rfl⟩))) (pu_tNot (b := true) (pu_tB (pu_call (pu_cons (c1 rfl) pu_nil) rfl ⟨c.2, rfl, gc.2, n2, by omega, rfl⟩)))))) (pus_ret ?_)
  have es : ((c.1 ++ c.2).map fun f => (f.size : Int)).sum = (wordsC c : Int) := by
    rw [sum_words, wordsS_app, wce]
  refine (pu_le (i := ((c.1 ++ c.2).map fun f => (f.size : Int)).sum) (pu_sum (ns := (c.1 ++ c.2).map fun f => (f.size : Int)) ?_) (pu_int 60)).cast (by rw [es, decide_eq_true (by omega)])
  rw [List.map_map]
  refine pu_map (xs := c.1 ++ c.2) (td := Fm.toD) (pui_list ((pu_cat (c0 rfl) (c1 rfl) (by rw [List.length_map, List.length_map]; omega)).cast (by rw [← List.map_append]))) (by rw [List.length_append]; omega) _ fun x hx => pu_call (pu_cons (pu_var (d := x.toD) rfl) pu_nil) rfl ⟨x, rfl, ?_, rfl⟩
  rcases List.mem_append.mp hx with h | h
  · have := (gc.1 x h).2; omega
  · have := (gc.2 x h).2; omega
/-- what decided tells, good for the claim -/
def Good7 (c : Cl) (d : PyData) : Prop := (∃ ws : List Int, d = .tuple [.str ("world" : Str), intsD ws] ∧ WorldOk ws c) ∨
  ∃ ls : List Ln, d = .tuple [.str ("chain" : Str), .list (lnsD ls)] ∧ WkG G7 ls ∧ Alike (clAt ls (ls.length - 1)) c ∧ ∀ l ∈ ls, ∃ (v : Wd) (g : Fm), l.r = .fm v g ∧ (v = .same ∨ v = .left ∨ v = .right)
def gGood7 (ds : List PyData) (d : PyData) : Prop := ∃ (x : PyData) (c : Cl), ds = [x, c.toD] ∧ LowC c ∧ (∀ f ∈ c.1, f.dep ≤ 13) ∧ (∀ f ∈ c.2, f.dep ≤ 13) ∧ Good7 c x ∧ d = .bool true
theorem scGood : FnScope ["_law_found", "_law_claim_here", "_law_one_here", "_law_known", "_law_last", "_law_line"] ["_law_found", "_law_claim_here"] (defScope sGood) := ⟨rfl, rfl, rfl, by decide +kernel, rfl, by decide +kernel, by decide +kernel⟩
theorem ok_good7 (D : Df K mg "_law_good" sGood ["_law_found", "_law_claim_here"] f fd) (B : Blt mg) (b_set : mg "set" = none) (h_law_whole : Has P w K mg base 1 "_law_whole" ["_law_found"] (spPu K 1 gWhole)) (h_law_holds : Has P w K mg base 15 "_law_holds" ["_law_claim_here", "_law_world"] (spPu K 2 gHolds)) (h_law_walks : Has P w K mg base 18 "_law_walks" ["_law_lines"] (spPu K 1 (gWalks G7))) (h_law_within : Has P w K mg base 1 "_law_within" ["_law_one_here", "_law_other"] (spPu K 2 gStandsIn)) :
    FnOk P w K mg base CX0 19 f fd ["_law_found", "_law_claim_here"] (spPu K 2 gGood7) := by
  refine ok_pu D scGood fun cdv A outer s H E hr => ?_
  refine ⟨_, (pss_cons (ps_if (PW.pt (pw_or (pt_not (pt_val (pe_callB (r := rIsi K) call_isi (by rfl) B.isinstance bt_isinstance (pa_cons (pv 0) (pa_cons (pe_bltn (v := .ty "tuple") (by rfl) B.tuple bt_tuple rfl) pa_nil))))) (pw_or (pt_cmpR op_ne (pe_callB (r := rLn K) call_len_seq (by rfl) B.len PySem.boot_len (pa_cons (pv 0) pa_nil)) pe_int (nomark _)) (pw_or1 (pt_not (pt_val (pe_callB (r := rIsi K) call_isi (by rfl) B.isinstance bt_isinstance (pa_cons (pe_ix (r := rIxT K) ix_tup (pv 0) pe_int (fun _ _ => rfl)) (pa_cons (pe_bltn (v := .ty "str") (by rfl) B.str bt_str rfl) pa_nil))))))))) (pss_one (ps_ret pe_bl)) pss_nil)
    (pss_cons (ps_if (pt_cmpR op_eq (pe_ix (r := rIxT K) ix_tup (pv 0) pe_int (fun _ _ => rfl)) pe_str (nomark _)) (pss_cons (ps_if (PW.pt (pw_or (pt_not (pt_val (pe_callB (r := rIsi K) call_isi (by rfl) B.isinstance bt_isinstance (pa_cons (pe_ix (r := rIxT K) ix_tup (pv 0) pe_int (fun _ _ => rfl)) (pa_cons (pe_bltn (v := .ty "list") (by rfl) B.list bt_list rfl) pa_nil))))) (pw_or1 (pt_not (pt_val (pe_callB (r := rAll K) (cr_all rfl) (by rfl) B.all bt_all (pa_cons (pe_lc (own := [("_law_one_here", 2)]) (g := gName 2) (tt := tYes) rfl scGood.nd (pi_list (pe_ix (r := rIxT K) ix_tup (pv 0) pe_int (fun _ _ => rfl))) (blkOk_by (N := ["_law_found", "_law_claim_here", "_law_one_here", "_law_known", "_law_last", "_law_line"]) (sc := defScope sGood) (by decide +kernel)) (fun _ _ _ _ _ => (pg_name (i := 2) scGood.nd rfl (by first | exact Or.inl rfl | exact Or.inr rfl))) (fun _ _ _ _ _ => pts_nil) (fun _ _ _ _ _ => (pe_callH h_law_whole (hr.mono (by omega)) (by rfl) (pa_cons (pv 2) pa_nil)))) pa_nil))))))) (pss_one (ps_ret pe_bl)) pss_nil)
    (pss_cons (ps_set (i := 3) scGood.nd rfl (by first | exact Or.inl rfl | exact Or.inr rfl) (pe_callB (r := rAll K) (cr_all rfl) (by rfl) B.all bt_all (pa_cons (pe_lc (own := [("_law_one_here", 2)]) (g := gName 2) (tt := tYes) rfl scGood.nd (pi_list (pe_ix (r := rIxT K) ix_tup (pv 0) pe_int (fun _ _ => rfl))) (blkOk_by (N := ["_law_found", "_law_claim_here", "_law_one_here", "_law_known", "_law_last", "_law_line"]) (sc := defScope sGood) (by decide +kernel)) (fun _ _ _ _ _ => (pg_name (i := 2) scGood.nd rfl (by first | exact Or.inl rfl | exact Or.inr rfl))) (fun _ _ _ _ _ => pts_nil) (fun _ _ _ _ _ => (pe_and (pe_cmpR op_le pe_int (pv 2) (nomark _)) (pe_one (pe_cmpR op_le (pv 2) pe_int (nomark _)))))) pa_nil)))
    (pss_one (ps_ret (pe_and (pv 3) (pe_and (pe_cmpR op_eq (RZ.pe_lenSetI (by rfl) B.len (by rfl) b_set (pe_ix (r := rIxT K) ix_tup (pv 0) pe_int (fun _ _ => rfl))) (pe_callB (r := rLn K) call_len_seq (by rfl) B.len PySem.boot_len (pa_cons (pe_ix (r := rIxT K) ix_tup (pv 0) pe_int (fun _ _ => rfl)) pa_nil)) (nomark _)) (pe_one (pe_not (pe_callH h_law_holds (hr.mono (by omega)) (by rfl) (pa_cons (pv 1) (pa_cons (pe_ix (r := rIxT K) ix_tup (pv 0) pe_int (fun _ _ => rfl)) pa_nil))))))))))) pss_nil)
    (pss_cons (ps_if (PW.pt (pw_or (pt_cmpR op_ne (pe_ix (r := rIxT K) ix_tup (pv 0) pe_int (fun _ _ => rfl)) pe_str (nomark _)) (pw_or1 (pt_not (pt_val (pe_callH h_law_walks (hr.mono (by omega)) (by rfl) (pa_cons (pe_ix (r := rIxT K) ix_tup (pv 0) pe_int (fun _ _ => rfl)) pa_nil))))))) (pss_one (ps_ret pe_bl)) pss_nil)
    (pss_cons (ps_set (i := 4) scGood.nd rfl (by first | exact Or.inl rfl | exact Or.inr rfl) (pe_ix (r := rIxT K) ix_tup (pe_ix (r := rIxL K) ix_list (pe_ix (r := rIxT K) ix_tup (pv 0) pe_int (fun _ _ => rfl)) (pe_op op_sub (pe_callB (r := rLn K) call_len_seq (by rfl) B.len PySem.boot_len (pa_cons (pe_ix (r := rIxT K) ix_tup (pv 0) pe_int (fun _ _ => rfl)) pa_nil)) pe_int) (fun _ _ => rfl)) pe_int (fun _ _ => rfl)))
    (pss_cons (ps_if (PW.pt (pw_or (pt_not (pt_val (pe_callH h_law_within (hr.mono (by omega)) (by rfl) (pa_cons (pv 4) (pa_cons (pv 1) pa_nil))))) (pw_or1 (pt_not (pt_val (pe_callH h_law_within (hr.mono (by omega)) (by rfl) (pa_cons (pv 1) (pa_cons (pv 4) pa_nil)))))))) (pss_one (ps_ret pe_bl)) pss_nil)
    (pss_one (ps_ret (pe_callB (r := rAll K) (cr_all rfl) (by rfl) B.all bt_all (pa_cons (pe_lc (own := [("_law_line", 5)]) (g := gName 5) (tt := tYes) rfl scGood.nd (pi_list (pe_ix (r := rIxT K) ix_tup (pv 0) pe_int (fun _ _ => rfl))) (blkOk_by (N := ["_law_found", "_law_claim_here", "_law_one_here", "_law_known", "_law_last", "_law_line"]) (sc := defScope sGood) (by decide +kernel)) (fun _ _ _ _ _ => (pg_name (i := 5) scGood.nd rfl (by first | exact Or.inl rfl | exact Or.inr rfl))) (fun _ _ _ _ _ => pts_nil) (fun _ _ _ _ _ => (pe_cmpR (r := rIn K false) op_in_seq (pe_ix (r := rIxT K) ix_tup (pe_ix (r := rIxT K) ix_tup (pv 5) pe_int (fun _ _ => rfl)) pe_int (fun _ _ => rfl)) (pe_tup (pa_cons pe_str (pa_cons pe_str (pa_cons pe_str pa_nil)))) (by rfl)))) pa_nil))))))))), ?_⟩
  rintro ds d hl ⟨x, c, rfl, lc, d1, d2, good, rfl⟩
  left
  have allT : ∀ {α : Type} (xs : List α), (xs.map fun _ => true).all id = true := fun xs => by rw [List.all_map]; exact List.all_eq_true.mpr fun _ _ => rfl
  have first : ∀ {t : Str} {y : PyData} {ρ : Rho}, ρ[0]? = some (some (.tuple [.str t, y])) → PuT K (tOr (tNot (tB (tCB (rIsi K) (tCons (tVar 0) (tCons (tC (.ty "tuple")) tNil))))) (tOr (tTest (tOp rNe (tCB (rLn K) (tCons (tVar 0) tNil)) (tC (.int 2)))) (tNot (tB (tCB (rIsi K) (tCons (tOp (rIxT K) (tVar 0) (tC (.int 0))) (tCons (tC (.ty "str")) tNil))))))) ρ false := fun {t y ρ} h =>
    pu_or_r (pu_tNot (b := true) (pu_tB (pu_isTup (d := .tuple [.str t, y]) (pu_var h)))) (pu_or_r ((pu_tTest (pu_neI (pu_len_t (ds := [.str t, y]) (pu_var h)) (pu_int 2))).cast rfl) (pu_tNot (b := true) (pu_tB (pu_isStr (d := .str t) (pu_ixT (ds := [.str t, y]) (pu_var h) (pu_int 0) (tix0 _ _ _))))))
  have i0 : ∀ {t : Str} {y : PyData} {ρ : Rho}, ρ[0]? = some (some (.tuple [.str t, y])) → PuE K (tOp (rIxT K) (tVar 0) (tC (.int 0))) ρ (.str t) := fun {t y ρ} h => pu_ixT (ds := [.str t, y]) (pu_var h) (pu_int 0) (tix0 _ _ _)
  have i1 : ∀ {t : Str} {y : PyData} {ρ : Rho}, ρ[0]? = some (some (.tuple [.str t, y])) → PuE K (tOp (rIxT K) (tVar 0) (tC (.int 1))) ρ y := fun {t y ρ} h => pu_ixT (ds := [.str t, y]) (pu_var h) (pu_int 1) (tix1 _ _ _)
  rcases good with ⟨ws, rfl, wok⟩ | ⟨ls, rfl, wkg, al, rules⟩
  · have lw : ws.length ≤ 100 := few_ints 100 ws wok.nd fun i hi => by have := wok.rng i hi; omega
    refine pus_skip (first (t := ("world" : Str)) (y := intsD ws) rfl) ?_
    refine pus_take (pu_eqS1 (i0 (t := ("world" : Str)) (y := intsD ws) rfl) (pu_str _) rfl) ?_
    refine pus_skip (pu_or_r (pu_tNot (b := true) (pu_tB (pu_isLst (d := intsD ws) (i1 (t := ("world" : Str)) rfl)))) (pu_tNot (b := true) (pu_tB ?_))) (pus_set (d := .bool true) ?_ (pus_ret ?_))
    · rw [← allT ws]
      refine pu_all ?_
      rw [List.map_map]
      exact pu_map (xs := ws) (td := PyData.int) (pui_list (i1 (t := ("world" : Str)) rfl)) (by omega) _ fun x hx => pu_call (pu_cons (pu_var (d := .int x) rfl) pu_nil) rfl ⟨x, rfl, rfl⟩
    · rw [← allT ws]
      refine pu_all ?_
      rw [List.map_map]
      refine pu_map (xs := ws) (td := PyData.int) (pui_list (i1 (t := ("world" : Str)) rfl)) (by omega) _ fun x hx => ?_
      have := wok.rng x hx
      exact (pu_and (pu_le (pu_int 0) (pu_var (d := .int x) rfl)) fun _ => pu_le (pu_var (d := .int x) rfl) (pu_int 99)).cast (by rw [decide_eq_true this.1, decide_eq_true this.2]; rfl)
    · refine pu_and (b := true) (pu_var rfl) fun _ => pu_and (b := true) ((pu_eqI (pu_lenSet (i1 (t := ("world" : Str)) rfl) wok.nd (by omega)) (pu_len_l (ds := ws.map PyData.int) (i1 (t := ("world" : Str)) rfl))).cast (by rw [List.length_map, decide_eq_true rfl])) fun _ => pu_not (b := false) (pu_call (pu_cons (pu_var rfl) (pu_cons (i1 (t := ("world" : Str)) rfl) pu_nil)) rfl ⟨c, ws, false, rfl, d1, d2, lc.2.2.1, lc.2.2.2, lw, rfl, ?_⟩)
      exact ⟨fun z => (nomatch z), fun h => absurd h (fails_not wok.fl)⟩
  · have lp := List.length_pos_iff.mpr wkg.ne
    have sz := wkg.ls
    have szl : (4000000 : Nat) ≤ sizeLine := by rw [sizeLine_eq]; decide
    have lD : (lnsD ls).length = ls.length := List.length_map _
    refine pus_skip (first (t := ("chain" : Str)) (y := .list (lnsD ls)) rfl) ?_
    refine pus_skip (pu_eqS0 (i0 (t := ("chain" : Str)) (y := .list (lnsD ls)) rfl) (pu_str _) (by decide +kernel)) ?_
    refine pus_skip (pu_or_r ((pu_tTest (pu_neS (i0 (t := ("chain" : Str)) (y := .list (lnsD ls)) rfl) (pu_str _))).cast (by rw [decide_eq_true rfl]; rfl)) (pu_tNot (b := true) (pu_tB (pu_call (pu_cons (i1 (t := ("chain" : Str)) (y := .list (lnsD ls)) rfl) pu_nil) rfl ⟨ls, rfl, wkg, rfl⟩)))) ?_
    have kl : ls.length - 1 < ls.length := by omega
    obtain ⟨q1, q2⟩ := lns_at kl
    have okl : OkC (clAt ls (ls.length - 1)) := by
      rw [q2]
      exact (wk_at wkg.wk (List.getElem?_eq_getElem kl)).1
    obtain ⟨s1, s2⟩ := alike_subC.1 al
    rw [q2] at okl s1 s2
    generalize ls[ls.length - 1] = ln at q1 okl s1 s2
    refine pus_set (d := ln.c.toD) (pu_ixT (ds := [ln.c.toD, ln.r.toD, intsD ln.u]) (pu_ixL (ds := lnsD ls) (i := ((ls.length - 1 : Nat) : Int)) (i1 (t := ("chain" : Str)) rfl) ((pu_sub (pu_len_l (ds := lnsD ls) (i1 (t := ("chain" : Str)) rfl)) (pu_int 1)).cast (by rw [lD]; congr 1; omega)) q1) (pu_int 0) (tix0 _ _ _)) ?_
    have lcl := cl_low okl.2 okl.1
    refine pus_skip (pu_or_r (pu_tNot (b := true) (pu_tB (pu_call (pu_cons (pu_var (d := ln.c.toD) rfl) (pu_cons (pu_var rfl) pu_nil)) rfl ⟨ln.c, c, rfl, lcl, lc, by rw [decide_eq_true s1]⟩))) (pu_tNot (b := true) (pu_tB (pu_call (pu_cons (pu_var rfl) (pu_cons (pu_var (d := ln.c.toD) rfl) pu_nil)) rfl ⟨c, ln.c, rfl, lc, lcl, by rw [decide_eq_true s2]⟩)))) (pus_ret ?_)
    rw [← allT ls]
    refine pu_all ?_
    rw [List.map_map]
    refine pu_map' (xs := ls) (td := Ln.toD) (pui_list (i1 (t := ("chain" : Str)) (y := .list (lnsD ls)) rfl)) (by omega) _ fun x hx => ?_
    obtain ⟨v, g, er, hv⟩ := rules x hx
    refine (pu_inTx (neg := false) (x := v.txt) (ys := [("same" : Str), "left", "right"]) (pu_ixT (ds := [.str v.txt, g.toD]) (pu_ixT (ds := [x.c.toD, x.r.toD, intsD x.u]) (pu_var (d := x.toD) rfl) (pu_int 1) (by rw [er]; exact tix1 _ _ _)) (pu_int 0) (tix0 _ _ _)) (pu_tup (pu_cons (pu_str _) (pu_cons (pu_str _) (pu_cons (pu_str _) pu_nil))) (by simp))).cast (congrArg PyData.bool ?_)
    show (if false = true then !decide (v.txt ∈ [("same" : Str), "left", "right"]) else decide (v.txt ∈ [("same" : Str), "left", "right"])) = true
    clear er
    rcases hv with rfl | rfl | rfl <;> decide +kernel
end
end Lm
set_option Elab.async false
set_option linter.all false
set_option maxRecDepth 100000
set_option maxHeartbeats 1000000
/-! the claims that are asked -/
namespace Lm
open PySem PySem.Spec PyProof.Rows L2
theorem bn_dep : ∀ (k : Nat) (f : Fm), f.dep ≤ k + 1 → f.bin + f.nos + 1 ≤ 2 ^ k
  | k, .sg i, _ => Nat.one_le_two_pow
  | 0, .no f, h => by
    have h : f.dep + 1 ≤ 0 + 1 := h
    have := f.dep_pos
    omega
  | 0, .bi b f g, h => by
    have h : max f.dep g.dep + 1 ≤ 0 + 1 := h
    have := f.dep_pos
    omega
  | k + 1, .no f, h => by
    have h : f.dep + 1 ≤ k + 1 + 1 := h
    have := bn_dep k f (by omega)
    have p : 1 ≤ 2 ^ k := Nat.one_le_two_pow
    show f.bin + (f.nos + 1) + 1 ≤ 2 ^ (k + 1)
    rw [Nat.pow_succ]
    omega
  | k + 1, .bi b f g, h => by
    have h : max f.dep g.dep + 1 ≤ k + 1 + 1 := h
    have := bn_dep k f (by omega)
    have := bn_dep k g (by omega)
    show f.bin + g.bin + 1 + (f.nos + g.nos) + 1 ≤ 2 ^ (k + 1)
    rw [Nat.pow_succ]
    omega
theorem bn_size : ∀ f : Fm, 2 * f.bin + f.nos + 1 ≤ f.size
  | .sg i => Nat.le_refl 1
  | .no f => by
    have := bn_size f
    show 2 * f.bin + (f.nos + 1) + 1 ≤ f.size + 1
    omega
  | .bi b f g => by
    have := bn_size f
    have := bn_size g
    show 2 * (f.bin + g.bin + 1) + (f.nos + g.nos) + 1 ≤ f.size + g.size + 1
    omega
theorem mS_two {a b : Fm → Nat} (k : Nat) : ∀ L : List Fm, (∀ f ∈ L, a f + b f ≤ k) → mS a L + mS b L ≤ k * L.length
  | [], _ => Nat.zero_le _
  | f :: r, h => by
    have := mS_two k r fun g hg => h g (List.mem_cons_of_mem _ hg)
    have := h f List.mem_cons_self
    rw [mS_cons, mS_cons, List.length_cons, Nat.mul_add]
    omega
theorem mS_size : ∀ L : List Fm, 2 * mS Fm.bin L + mS Fm.nos L ≤ wordsS L
  | [] => Nat.le_refl 0
  | f :: r => by
    have := mS_size r
    have := bn_size f
    rw [mS_cons, mS_cons, wordsS_cons]
    omega
theorem onceA_in : ∀ (acc B : List Fm), (∀ f ∈ B, f ∈ acc) → onceA acc B = acc
  | acc, [], _ => by rw [onceA]
  | acc, f :: r, h => by
    rw [onceA, if_pos (h f List.mem_cons_self), onceA_in acc r fun g hg => h g (List.mem_cons_of_mem _ hg)]
theorem onceA_two : ∀ (acc A B : List Fm), onceA acc (A ++ B) = onceA (onceA acc A) B
  | acc, [], B => by rw [onceA]; rfl
  | acc, f :: A, B => by
    show onceA acc (f :: (A ++ B)) = _
    rw [onceA, onceA, onceA_two]
theorem once_twice {A B : List Fm} (h : ∀ f ∈ B, f ∈ A) : once (A ++ B) = once A := by
  unfold once
  rw [onceA_two]
  exact onceA_in _ _ fun f hf => mem_once.mpr (h f hf)
theorem mC_once (m : Fm → Nat) (c : Cl) : mC m (onceC c) ≤ mC m c := by
  have := mS_once m c.1
  have := mS_once m c.2
  show mS m (once c.1) + mS m (once c.2) ≤ mS m c.1 + mS m c.2
  omega
theorem pow18 : ∀ b : Fin 19, 2 ^ b.val * (20 - b.val) ≤ 600000 := by decide +kernel
theorem pow24 : ∀ b : Fin 13, 2 ^ b.val * (26 - 2 * b.val) ≤ 600000 := by decide +kernel
theorem lim18 {c : Cl} (h : mC Fm.bin c + mC Fm.nos c ≤ 18) : lim c ≤ lnCap := by
  have := pow18 ⟨mC Fm.bin c, by omega⟩
  exact Nat.le_trans (Nat.mul_le_mul_left _ (by show mC Fm.nos c + 2 ≤ 20 - mC Fm.bin c; omega)) this
theorem lim24 {c : Cl} (h : 2 * mC Fm.bin c + mC Fm.nos c ≤ 24) : lim c ≤ lnCap := by
  have := pow24 ⟨mC Fm.bin c, by omega⟩
  exact Nat.le_trans (Nat.mul_le_mul_left _ (by show mC Fm.nos c + 2 ≤ 26 - 2 * mC Fm.bin c; omega)) this
theorem lim_words {c : Cl} (h : wordsC c ≤ 24) : lim (onceC c) ≤ lnCap := by
  have a := mS_size (onceC c).1
  have b := mS_size (onceC c).2
  have w := onceC_words c
  have e : wordsC (onceC c) = wordsS (onceC c).1 + wordsS (onceC c).2 := rfl
  refine lim24 ?_
  show 2 * (mS Fm.bin (onceC c).1 + mS Fm.bin (onceC c).2) + (mS Fm.nos (onceC c).1 + mS Fm.nos (onceC c).2) ≤ 24
  omega
def rowN7 (ns : List Int) (s : Nat) (b : Int) : List Fm := (List.range (cellN ns (2 + (s : Int)) % 4).toNat).map fun (k : Nat) => formN 2 (cellN ns (4 + 3 * (s : Int) + (k : Int)) * 48271 % 1000003) b
def sideN7 (ns : List Int) (s : Nat) (b : Int) : List Fm := rowN7 ns s b ++ (rowN7 ns s b).take (cellN ns (2 + (s : Int)) / 4 % 2).toNat
def prsN7 (b : Int) : List Fm := (List.range 5).map fun (k : Nat) => .bi .o (.sg ((b + (k : Int)) % 100)) (.sg ((b + 7 * (k : Int) + 20) % 100))
def orN7 (z b : Int) : Cl := (prsN7 b, (List.replicate (z / 80 % 2).toNat [Fm.bi .an (getF (prsN7 b) (z / 16 % 5)) (getF (prsN7 b) 0)]).flatten ++ [.sg (b % 100)])
def cellsN7 (ns : List Int) : List Int := cellN ns 1 / 2 :: (ns.take 12).drop 2
def claimN7 (ns : List Int) (b : Int) : Cl :=
  if cellN ns 1 % 2 = 1 then clAt (chainN (cellsN7 ns) b) ((chainN (cellsN7 ns) b).length - 1)
  else if cellN ns 1 / 2 % 8 = 3 then orN7 (cellN ns 1) b
  else (sideN7 ns 0 b, sideN7 ns 1 b)
theorem row7 (ns : List Int) (s : Nat) (b : Int) : (∀ f ∈ rowN7 ns s b, f.good ∧ f.dep ≤ 3 ∧ f.size ≤ 7) ∧ (rowN7 ns s b).length ≤ 3 := by
  have m0 := Int.emod_nonneg (cellN ns (2 + (s : Int))) (by decide : (4 : Int) ≠ 0)
  have m1 := Int.emod_lt_of_pos (cellN ns (2 + (s : Int))) (by decide : (0 : Int) < 4)
  refine ⟨fun f hf => ?_, ?_⟩
  · unfold rowN7 at hf
    obtain ⟨k, _, rfl⟩ := List.mem_map.mp hf
    have := size_dep (formN_dep 2 (cellN ns (4 + 3 * (s : Int) + (k : Int)) * 48271 % 1000003) b)
    have e : (2 : Nat) ^ 3 = 8 := by decide
    exact ⟨formN_good _ _ _, formN_dep 2 _ _, by omega⟩
  · unfold rowN7
    rw [List.length_map, List.length_range]
    omega
theorem side7 (ns : List Int) (s : Nat) (b : Int) : (∀ f ∈ sideN7 ns s b, f.good ∧ f.dep ≤ 3 ∧ f.size ≤ 7) ∧ (sideN7 ns s b).length ≤ 4 ∧ mS Fm.bin (once (sideN7 ns s b)) + mS Fm.nos (once (sideN7 ns s b)) ≤ 9 := by
  obtain ⟨h, l⟩ := row7 ns s b
  have m1 := Int.emod_lt_of_pos (cellN ns (2 + (s : Int)) / 4) (by decide : (0 : Int) < 2)
  unfold sideN7
  refine ⟨fun f hf => ?_, ?_, ?_⟩
  · rcases List.mem_append.mp hf with hf | hf
    · exact h f hf
    · exact h f (List.mem_of_mem_take hf)
  · rw [List.length_append, List.length_take]
    omega
  · rw [once_twice fun f hf => List.mem_of_mem_take hf]
    have a := mS_once Fm.bin (rowN7 ns s b)
    have b' := mS_once Fm.nos (rowN7 ns s b)
    have c := mS_two (a := Fm.bin) (b := Fm.nos) 3 (rowN7 ns s b) fun f hf => by
      have := bn_dep 2 f (h f hf).2.1
      have e : (2 : Nat) ^ 2 = 4 := by decide
      omega
    have d := Nat.mul_le_mul_left 3 l
    omega
theorem prs7 (b : Int) : (∀ f ∈ prsN7 b, f.good ∧ f.dep ≤ 2 ∧ f.size ≤ 3 ∧ f.bin ≤ 1 ∧ f.nos = 0) ∧ (prsN7 b).length = 5 := by
  refine ⟨fun f hf => ?_, rfl⟩
  unfold prsN7 at hf
  obtain ⟨k, _, rfl⟩ := List.mem_map.mp hf
  have a0 := Int.emod_nonneg (b + (k : Int)) (by decide : (100 : Int) ≠ 0)
  have a1 := Int.emod_lt_of_pos (b + (k : Int)) (by decide : (0 : Int) < 100)
  have b0 := Int.emod_nonneg (b + 7 * (k : Int) + 20) (by decide : (100 : Int) ≠ 0)
  have b1 := Int.emod_lt_of_pos (b + 7 * (k : Int) + 20) (by decide : (0 : Int) < 100)
  exact ⟨⟨⟨a0, by omega⟩, ⟨b0, by omega⟩⟩, Nat.le_refl 2, Nat.le_refl 3, Nat.le_refl 1, rfl⟩
theorem mS_le (m : Fm → Nat) (k : Nat) : ∀ L : List Fm, (∀ f ∈ L, m f ≤ k) → mS m L ≤ k * L.length := fun L h => by
  have := mS_two (a := m) (b := fun _ => 0) k L fun f hf => by have := h f hf; omega
  omega
theorem claim7 (ns : List Int) (b : Int) : GdC (claimN7 ns b) ∧ wordsC (claimN7 ns b) ≤ 60 ∧ lim (onceC (claimN7 ns b)) ≤ lnCap := by
  unfold claimN7
  split
  · obtain ⟨h, _⟩ := chain_ok (cellsN7 ns) b
    obtain ⟨g, w⟩ := clAt_ok h ((chainN (cellsN7 ns) b).length - 1)
    exact ⟨g, by omega, lim_words w⟩
  · split
    · obtain ⟨h, l⟩ := prs7 b
      have ne : prsN7 b ≠ [] := by intro z; rw [z] at l; cases l
      have g1 := (getF_mod ne (cellN ns 1 / 16)).2
      have g2 := (getF_mod ne 0).2
      rw [l] at g1 g2
      have g1 : getF (prsN7 b) (cellN ns 1 / 16 % 5) ∈ prsN7 b := g1
      have g2 : getF (prsN7 b) 0 ∈ prsN7 b := g2
      obtain ⟨a1, a2, a3, a4, a5⟩ := h _ g1
      obtain ⟨b1, b2, b3, b4, b5⟩ := h _ g2
      have hb0 := Int.emod_nonneg b (by decide : (100 : Int) ≠ 0)
      have hb1 := Int.emod_lt_of_pos b (by decide : (0 : Int) < 100)
      have hr0 := Int.emod_nonneg (cellN ns 1 / 80) (by decide : (2 : Int) ≠ 0)
      have hr1 := Int.emod_lt_of_pos (cellN ns 1 / 80) (by decide : (0 : Int) < 2)
      unfold orN7
      generalize getF (prsN7 b) (cellN ns 1 / 16 % 5) = f at a1 a2 a3 a4 a5
      generalize getF (prsN7 b) 0 = g at b1 b2 b3 b4 b5
      have hF : ∀ x ∈ (List.replicate (cellN ns 1 / 80 % 2).toNat [Fm.bi .an f g]).flatten, x = Fm.bi .an f g := fun x hx => by
        obtain ⟨r, hr, hx⟩ := List.mem_flatten.mp hx
        rw [(List.mem_replicate.mp hr).2] at hx
        exact List.mem_singleton.mp hx
      have lF : (List.replicate (cellN ns 1 / 80 % 2).toNat [Fm.bi .an f g]).flatten.length ≤ 1 := by
        rw [List.length_flatten, List.map_replicate]
        rcases (show (cellN ns 1 / 80 % 2).toNat = 0 ∨ (cellN ns 1 / 80 % 2).toNat = 1 by omega) with z | z <;> rw [z] <;> simp
      generalize (List.replicate (cellN ns 1 / 80 % 2).toNat [Fm.bi .an f g]).flatten = F at hF lF
      have sz : ∀ x ∈ F, x.size ≤ 7 := fun x hx => by rw [hF x hx]; show f.size + g.size + 1 ≤ 7; omega
      have bz : ∀ x ∈ F, x.bin ≤ 3 := fun x hx => by rw [hF x hx]; show f.bin + g.bin + 1 ≤ 3; omega
      have nz : ∀ x ∈ F, x.nos ≤ 0 := fun x hx => by rw [hF x hx]; show f.nos + g.nos ≤ 0; omega
      have w1 := mS_le Fm.size 3 (prsN7 b) fun x hx => (h x hx).2.2.1
      have w2 := mS_le Fm.size 7 F sz
      have v1 := mS_le Fm.bin 1 (prsN7 b) fun x hx => (h x hx).2.2.2.1
      have v2 := mS_le Fm.bin 3 F bz
      have n1 := mS_le Fm.nos 0 (prsN7 b) fun x hx => Nat.le_of_eq (h x hx).2.2.2.2
      have n2 := mS_le Fm.nos 0 F nz
      rw [l] at w1 v1 n1
      have lw : wordsS (F ++ [Fm.sg (b % 100)]) = mS Fm.size F + 1 := by rw [← mS_words, mS_app]; rfl
      refine ⟨⟨fun x hx => ⟨(h x hx).1, Nat.le_trans (h x hx).2.1 (by decide)⟩, fun x hx => ?_⟩, ?_, lim18 ?_⟩
      · rcases List.mem_append.mp hx with hx | hx
        · rw [hF x hx]
          exact ⟨⟨a1, b1⟩, by show max f.dep g.dep + 1 ≤ 12; omega⟩
        · rw [List.mem_singleton.mp hx]
          exact ⟨⟨hb0, by omega⟩, by show 1 ≤ 12; decide⟩
      · show wordsS (prsN7 b) + wordsS (F ++ [Fm.sg (b % 100)]) ≤ 60
        rw [lw, ← mS_words]
        omega
      · have x1 := mC_once Fm.bin (prsN7 b, F ++ [Fm.sg (b % 100)])
        have x2 := mC_once Fm.nos (prsN7 b, F ++ [Fm.sg (b % 100)])
        have y1 : mC Fm.bin (prsN7 b, F ++ [Fm.sg (b % 100)]) = mS Fm.bin (prsN7 b) + (mS Fm.bin F + 0) := by show _ + mS Fm.bin (F ++ _) = _; rw [mS_app]; rfl
        have y2 : mC Fm.nos (prsN7 b, F ++ [Fm.sg (b % 100)]) = mS Fm.nos (prsN7 b) + (mS Fm.nos F + 0) := by show _ + mS Fm.nos (F ++ _) = _; rw [mS_app]; rfl
        omega
    · obtain ⟨h1, l1, s1⟩ := side7 ns 0 b
      obtain ⟨h2, l2, s2⟩ := side7 ns 1 b
      refine ⟨⟨fun f hf => ⟨(h1 f hf).1, Nat.le_trans (h1 f hf).2.1 (by decide)⟩, fun f hf => ⟨(h2 f hf).1, Nat.le_trans (h2 f hf).2.1 (by decide)⟩⟩, ?_, lim18 ?_⟩
      · have w1 := mS_le Fm.size 7 (sideN7 ns 0 b) fun f hf => (h1 f hf).2.2
        have w2 := mS_le Fm.size 7 (sideN7 ns 1 b) fun f hf => (h2 f hf).2.2
        show wordsS (sideN7 ns 0 b) + wordsS (sideN7 ns 1 b) ≤ 60
        rw [← mS_words, ← mS_words]
        omega
      · show (mS Fm.bin (once (sideN7 ns 0 b)) + mS Fm.bin (once (sideN7 ns 1 b))) + (mS Fm.nos (once (sideN7 ns 0 b)) + mS Fm.nos (once (sideN7 ns 1 b))) ≤ 18
        omega
end Lm
set_option Elab.async false
set_option linter.all false
set_option maxRecDepth 100000
set_option maxHeartbeats 1000000
namespace Lm
open PySem PySem.Spec PyProof.Rows L2
def gClaim7 (ds : List PyData) (d : PyData) : Prop := ∃ (ns : List Int) (b : Int), ds = [intsD ns, .int b] ∧ ns.length ≤ 63 ∧ d = (claimN7 ns b).toD
section
variable {P : Program} {w : World} {K : PySem.W.Frag} {mg : Str → Option Value} {base : Heap} {f : Addr} {fd : FuncData}
theorem scLClaim : FnScope ["_law_script", "_law_base", "_law_first_here", "_law_lines", "_law_claim_here", "_law_pairs", "_law_k", "_law_sides", "_law_side", "_law_row"] ["_law_script", "_law_base"] (defScope sLClaim) := ⟨rfl, rfl, rfl, by decide +kernel, rfl, by decide +kernel, by decide +kernel⟩
theorem ok_claim7 (D : Df K mg "_law_claim" sLClaim ["_law_script", "_law_base"] f fd) (B : Blt mg) (b_range : mg "range" = none) (h_law_cell_at : Has P w K mg base 1 "_law_cell_at" ["_law_script", "_law_k"] (spPu K 2 gCell)) (h_law_chain : Has P w K mg base 18 "_law_chain" ["_law_cells", "_law_base"] (spOwn K 2 gChain)) (h_law_formula : Has P w K mg base 5 "_law_formula" ["_law_cell", "_law_deep_here", "_law_base"] (spPu K 3 (gFormula 3))) : FnOk P w K mg base CX0 19 f fd ["_law_script", "_law_base"] (spPu K 2 gClaim7) := by
  refine ok_puo D scLClaim fun cdv A outer s H E hr => ?_
  refine ⟨_, (pss_cons (ps_set (i := 2) scLClaim.nd rfl (by first | exact Or.inl rfl | exact Or.inr rfl) (pe_callH h_law_cell_at (hr.mono (by omega)) (by rfl) (pa_cons (pv 0) (pa_cons pe_int pa_nil))))
    (pss_cons (ps_if (pt_cmpR op_eq (pe_op op_mod (pv 2) pe_int) pe_int (nomark _)) (pss_cons (ps_set (i := 3) scLClaim.nd rfl (by first | exact Or.inl rfl | exact Or.inr rfl) (pe_callH h_law_chain (hr.mono (by omega)) (by rfl) (pa_cons (pe_op (r := rCatL K) op_catL (pe_lst (pa_cons (pe_op op_fdiv (pv 2) pe_int) pa_nil)) (pe_slice sl_list (pv 0) (po_some pe_int) (po_some pe_int))) (pa_cons (pv 1) pa_nil))))
    (pss_cons (ps_set (i := 4) scLClaim.nd rfl (by first | exact Or.inl rfl | exact Or.inr rfl) (pe_ix (r := rIxT K) ix_tup (pe_ix (r := rIxL K) ix_list (pv 3) (pe_op op_sub (pe_callB (r := rLn K) call_len_seq (by rfl) B.len PySem.boot_len (pa_cons (pv 3) pa_nil)) pe_int) (fun _ _ => rfl)) pe_int (fun _ _ => rfl)))
    (pss_one (ps_ret (pe_tup (pa_cons (pe_callTy call_list_of (by rfl) B.list bt_list (pa_cons (pe_ix (r := rIxT K) ix_tup (pv 4) pe_int (fun _ _ => rfl)) pa_nil)) (pa_cons (pe_callTy call_list_of (by rfl) B.list bt_list (pa_cons (pe_ix (r := rIxT K) ix_tup (pv 4) pe_int (fun _ _ => rfl)) pa_nil)) pa_nil))))))) pss_nil)
    (pss_cons (ps_if (pt_cmpR op_eq (pe_op op_mod (pe_op op_fdiv (pv 2) pe_int) pe_int) pe_int (nomark _)) (pss_cons (ps_setLc (i := 5) (own := [("_law_k", 6)]) (g := gName 6) (tt := tYes) rfl scLClaim.nd rfl rfl (sw_true rfl rfl rfl (by decide +kernel)) (pi_range1 (by rfl) b_range (pa_cons pe_int pa_nil)) (blkOk_by (N := ["_law_script", "_law_base", "_law_first_here", "_law_lines", "_law_claim_here", "_law_pairs", "_law_k", "_law_sides", "_law_side", "_law_row"]) (sc := defScope sLClaim) (by decide +kernel)) (fun _ _ _ _ _ => (pg_name (i := 6) scLClaim.nd rfl (by first | exact Or.inl rfl | exact Or.inr rfl))) (fun _ _ _ _ _ => pts_nil) (fun _ _ _ _ _ => (pe_tup (pa_cons pe_str (pa_cons (pe_tup (pa_cons pe_str (pa_cons (pe_op op_mod (pe_op op_add (pv 1) (pv 6)) pe_int) pa_nil))) (pa_cons (pe_tup (pa_cons pe_str (pa_cons (pe_op op_mod (pe_op op_add (pe_op op_add (pv 1) (pe_op op_mul pe_int (pv 6))) pe_int) pe_int) pa_nil))) pa_nil))))))
    (pss_one (ps_ret (pe_tup (pa_cons (pv 5) (pa_cons (pe_op (r := rCatL K) op_catL (pe_op (r := rRepL K) op_repL (pe_lst (pa_cons (pe_tup (pa_cons pe_str (pa_cons (pe_ix (r := rIxL K) ix_list (pv 5) (pe_op op_mod (pe_op op_fdiv (pv 2) pe_int) pe_int) (fun _ _ => rfl)) (pa_cons (pe_ix (r := rIxL K) ix_list (pv 5) pe_int (fun _ _ => rfl)) pa_nil)))) pa_nil)) (pe_op op_mod (pe_op op_fdiv (pv 2) pe_int) pe_int)) (pe_lst (pa_cons (pe_tup (pa_cons pe_str (pa_cons (pe_op op_mod (pv 1) pe_int) pa_nil))) pa_nil))) pa_nil)))))) pss_nil)
    (pss_cons (ps_set (i := 7) scLClaim.nd rfl (by first | exact Or.inl rfl | exact Or.inr rfl) (pe_lst pa_nil))
    (pss_cons (ps_for PassesOwn.never rfl (pi_range1 (by rfl) b_range (pa_cons pe_int pa_nil)) (pg_name (i := 8) scLClaim.nd rfl (by first | exact Or.inl rfl | exact Or.inr rfl)) (pss_cons (ps_set (i := 9) scLClaim.nd rfl (by first | exact Or.inl rfl | exact Or.inr rfl) (pe_lst pa_nil))
    (pss_cons (ps_for PassesOwn.never rfl (pi_range1 (by rfl) b_range (pa_cons (pe_op op_mod (pe_callH h_law_cell_at (hr.mono (by omega)) (by rfl) (pa_cons (pv 0) (pa_cons (pe_op op_add pe_int (pv 8)) pa_nil))) pe_int) pa_nil)) (pg_name (i := 6) scLClaim.nd rfl (by first | exact Or.inl rfl | exact Or.inr rfl)) (pss_one (ps_expr (pe_bm PySem.F.plainAttrs_list PySem.F.slot_list_append PySem.F.type_list_append mt_append (pv 9) (pa_cons (pe_callH h_law_formula (hr.mono (by omega)) (by rfl) (pa_cons (pe_op op_mod (pe_op op_mul (pe_callH h_law_cell_at (hr.mono (by omega)) (by rfl) (pa_cons (pv 0) (pa_cons (pe_op op_add (pe_op op_add pe_int (pe_op op_mul pe_int (pv 8))) (pv 6)) pa_nil))) pe_int) pe_int) (pa_cons pe_int (pa_cons (pv 1) pa_nil)))) pa_nil)))))
    (pss_one (ps_expr (pe_bm PySem.F.plainAttrs_list PySem.F.slot_list_append PySem.F.type_list_append mt_append (pv 7) (pa_cons (pe_op (r := rCatL K) op_catL (pv 9) (pe_slice sl_list (pv 9) po_none (po_some (pe_op op_mod (pe_op op_fdiv (pe_callH h_law_cell_at (hr.mono (by omega)) (by rfl) (pa_cons (pv 0) (pa_cons (pe_op op_add pe_int (pv 8)) pa_nil))) pe_int) pe_int)))) pa_nil)))))))
    (pss_one (ps_ret (pe_tup (pa_cons (pe_ix (r := rIxL K) ix_list (pv 7) pe_int (fun _ _ => rfl)) (pa_cons (pe_ix (r := rIxL K) ix_list (pv 7) pe_int (fun _ _ => rfl)) pa_nil)))))))))), ?_⟩
  rintro ds d hl ⟨ns, b, rfl, nl, rfl⟩
  have cell : ∀ (z : Int) {te : TE} {ρ : Rho}, PuE K te ρ (.int z) → 0 ≤ z → ρ[0]? = some (some (intsD ns)) → PuE K (tCall (spPu K 2 gCell) [] E0 (tCons (tVar 0) (tCons te tNil))) ρ (.int (cellN ns z)) := fun z te ρ hz z0 h => pu_call (pu_cons (pu_var h) (pu_cons hz pu_nil)) rfl ⟨ns, z, rfl, z0, rfl⟩
  refine puo_set (d := .int (cellN ns 1)) (cell 1 (pu_int 1) (by decide) rfl) ?_
  unfold claimN7
  generalize hz : cellN ns 1 = z
  have t1 : PuT K (tTest (tOp rEq (tOp (rI (fun _ j => 0 < j) fun i j => .int (i % j)) (tVar 2) (tC (.int 2))) (tC (.int 1)))) (seen ((startE ["_law_script", "_law_base", "_law_first_here", "_law_lines", "_law_claim_here", "_law_pairs", "_law_k", "_law_sides", "_law_side", "_law_row"] [intsD ns, .int b]).set 2 (some (.d (.int z))))) (decide (z % 2 = 1)) := pu_tTest (pu_eqI (pu_mod (pu_var rfl) (pu_int 2) (by decide)) (pu_int 1))
  refine puo_ifr t1 (fun c => ⟨_, rfl, ?_⟩) (fun c => ?_)
  · rw [if_pos (of_decide_eq_true c)]
    refine puo_set (d := .list (lnsD (chainN (cellsN7 ns) b))) (pu_callO (ds := [intsD (cellsN7 ns), .int b]) (es := lnsD (chainN (cellsN7 ns) b)) (pu_cons ((pu_cat (ds := [.int (z / 2)]) (es := ((ns.map PyData.int).take 12).drop 2) (pu_lst (pu_cons (pu_fdiv (pu_var rfl) (pu_int 2) ⟨by decide, by decide⟩) pu_nil) (by simp)) (pu_mid (a := 2) (b := 12) (pu_var rfl) (pu_int 2) (pu_int 12) (by decide)) ?_).cast ?_) (pu_cons (pu_var rfl) pu_nil)) rfl ⟨cellsN7 ns, b, rfl, by simp [cellsN7], ?_, rfl⟩) ?_
    · rw [List.length_drop, List.length_take, List.length_map]; show 1 + _ ≤ _; omega
    · show PyData.list _ = PyData.list _
      unfold cellsN7
      rw [hz, List.map_cons, List.map_drop, List.map_take]
      rfl
    · show ((ns.take 12).drop 2).length + 1 ≤ 40
      rw [List.length_drop, List.length_take]
      omega
    obtain ⟨h, ne, _⟩ := chain_ok (cellsN7 ns) b
    generalize chainN (cellsN7 ns) b = ls at h ne
    have lp := List.length_pos_iff.mpr ne
    have lD : (lnsD ls).length = ls.length := List.length_map _
    have kl : ls.length - 1 < ls.length := by omega
    obtain ⟨q1, q2⟩ := lns_at kl
    rw [q2]
    generalize ls[ls.length - 1] = ln at q1
    refine puo_set (d := ln.c.toD) (pu_ixT (ds := [ln.c.toD, ln.r.toD, intsD ln.u]) (pu_ixL (ds := lnsD ls) (i := ((ls.length - 1 : Nat) : Int)) (pu_var rfl) ((pu_sub (pu_len_l (ds := lnsD ls) (pu_var rfl)) (pu_int 1)).cast (by rw [lD]; congr 1; omega)) q1) (pu_int 0) (tix0 _ _ _)) ?_
    exact puo_ret (pu_c (L := ln.c.1) (R := ln.c.2) (pu_copy (pu_ixT (pu_cl (a := ln.c) (pu_var rfl)) (pu_int 0) (cix0 ln.c))) (pu_copy (pu_ixT (pu_cl (a := ln.c) (pu_var rfl)) (pu_int 1) (cix1 ln.c))))
  rw [if_neg (of_decide_eq_false c)]
  have t2 : PuT K (tTest (tOp rEq (tOp (rI (fun _ j => 0 < j) fun i j => .int (i % j)) (tOp (rI CDiv fun i j => .int (i / j)) (tVar 2) (tC (.int 2))) (tC (.int 8))) (tC (.int 3)))) (seen ((startE ["_law_script", "_law_base", "_law_first_here", "_law_lines", "_law_claim_here", "_law_pairs", "_law_k", "_law_sides", "_law_side", "_law_row"] [intsD ns, .int b]).set 2 (some (.d (.int z))))) (decide (z / 2 % 8 = 3)) := pu_tTest (pu_eqI (pu_mod (pu_fdiv (pu_var rfl) (pu_int 2) ⟨by decide, by decide⟩) (pu_int 8) (by decide)) (pu_int 3))
  refine puo_ifr t2 (fun c => ⟨_, rfl, ?_⟩) (fun c => ?_)
  · rw [if_pos (of_decide_eq_true c)]
    obtain ⟨hp, l⟩ := prs7 b
    have ne : prsN7 b ≠ [] := by intro y; rw [y] at l; cases l
    have g1 := (getF_mod ne (z / 16)).1
    have g2 := (getF_mod ne 0).1
    rw [l] at g1 g2
    have g1 : atI (prsN7 b) (z / 16 % 5) = some (getF (prsN7 b) (z / 16 % 5)) := g1
    have g2 : atI (prsN7 b) 0 = some (getF (prsN7 b) 0) := g2
    have hr0 := Int.emod_nonneg (z / 80) (by decide : (2 : Int) ≠ 0)
    have hr1 := Int.emod_lt_of_pos (z / 80) (by decide : (0 : Int) < 2)
    refine puo_set (d := lsD (prsN7 b)) ?_ ?_
    · show PuE K _ _ (.list (List.map Fm.toD (List.map _ _)))
      rw [List.map_map]
      refine pu_map (xs := List.range 5) (td := fun (i : Nat) => PyData.int (0 + (i : Int))) (pui_rng1 (n := 5) (pu_int 5) (by decide) (by decide)) (by decide) _ fun k hk => ?_
      have e0 : (0 : Int) + (k : Int) = k := Int.zero_add _
      refine (pu_tup (pu_cons (pu_str ("or" : Str)) (pu_cons (pu_tup (pu_cons (pu_str ("sign" : Str)) (pu_cons (pu_mod (pu_add (pu_var rfl) (pu_var rfl)) (pu_int 100) (by decide)) pu_nil)) (by simp)) (pu_cons (pu_tup (pu_cons (pu_str ("sign" : Str)) (pu_cons (pu_mod (pu_add (pu_add (pu_var rfl) (pu_mul (pu_int 7) (pu_var rfl) (.inl ⟨by decide, by decide⟩))) (pu_int 20)) (pu_int 100) (by decide)) pu_nil)) (by simp)) pu_nil))) (by simp)).cast ?_
      rw [e0]
      rfl
    · unfold orN7
      have ip : ∀ {te : TE} {ρ : Rho} {k : Int} {g : Fm}, ρ[5]? = some (some (lsD (prsN7 b))) → PuE K te ρ (.int k) → atI (prsN7 b) k = some g → PuE K (tOp (rIxL K) (tVar 5) te) ρ g.toD := fun {te ρ k g} h hk e => pu_ixL (ds := (prsN7 b).map Fm.toD) (pu_var h) hk (atI_map e)
      refine puo_ret (pu_c (pu_var rfl) ?_)
      refine (pu_cat (ds := (List.replicate (z / 80 % 2).toNat [(Fm.bi .an (getF (prsN7 b) (z / 16 % 5)) (getF (prsN7 b) 0)).toD]).flatten) (es := [(Fm.sg (b % 100)).toD]) (pu_rep (pu_lst (pu_cons (pu_tup (pu_cons (pu_str ("and" : Str)) (pu_cons (ip rfl (pu_mod (pu_fdiv (pu_var rfl) (pu_int 16) ⟨by decide, by decide⟩) (pu_int 5) (by decide)) g1) (pu_cons (ip rfl (pu_int 0) g2) pu_nil))) (by simp)) pu_nil) (by simp)) (pu_mod (pu_fdiv (pu_var rfl) (pu_int 80) ⟨by decide, by decide⟩) (pu_int 2) (by decide)) (by omega) (by omega) (by show 1 * _ ≤ _; omega)) (pu_lst (pu_cons (pu_tup (pu_cons (pu_str ("sign" : Str)) (pu_cons (pu_mod (pu_var rfl) (pu_int 100) (by decide)) pu_nil)) (by simp)) pu_nil) (by simp)) ?_).cast ?_
      · rw [List.length_flatten, List.map_replicate]
        rcases (show (z / 80 % 2).toNat = 0 ∨ (z / 80 % 2).toNat = 1 by omega) with y | y <;> rw [y] <;> simp
      · show PyData.list _ = PyData.list _
        rw [List.map_append, List.map_flatten, List.map_replicate]
        rfl
  rw [if_neg (of_decide_eq_false c)]
  refine puo_new (i := 7) (ds := []) pu_nil (by decide) ?_
  refine puo_seq (ρ' := [some (.d (intsD ns)), some (.d (.int b)), some (.d (.int z)), none, none, none, none, some (.o [lsD (sideN7 ns 0 b), lsD (sideN7 ns 1 b)]), none, none]) ?_
    (puo_ret (pu_c (pu_ixL (ds := [lsD (sideN7 ns 0 b), lsD (sideN7 ns 1 b)]) (pu_var rfl) (pu_int 0) (tix0 _ _ _)) (pu_ixL (ds := [lsD (sideN7 ns 0 b), lsD (sideN7 ns 1 b)]) (pu_var rfl) (pu_int 1) (tix1 _ _ _))))
  refine puo_for (k := 2) (xs := List.range 2) (td := fun (i : Nat) => PyData.int (0 + (i : Int))) (fun i => [some (.d (intsD ns)), some (.d (.int b)), some (.d (.int z)), none, none, none, none, some (.o ((List.range i).map fun s => lsD (sideN7 ns s b))), none, none])
    (pui_rng1 (n := 2) (pu_int 2) (by decide) (by decide)) rfl (by decide) (fun i x hi hx => ⟨_, pgo_name 8, .inl ?_⟩) (.inl ⟨rfl, rfl⟩)
  rw [List.getElem?_range hi] at hx
  cases hx
  rw [Int.zero_add]
  obtain ⟨hrow, lrow⟩ := row7 ns i b
  have m0 := Int.emod_nonneg (cellN ns (2 + (i : Int))) (by decide : (4 : Int) ≠ 0)
  have m1 := Int.emod_lt_of_pos (cellN ns (2 + (i : Int))) (by decide : (0 : Int) < 4)
  have lr : (rowN7 ns i b).length = (cellN ns (2 + (i : Int)) % 4).toNat := by unfold rowN7; rw [List.length_map, List.length_range]
  have hj0 := Int.emod_nonneg (cellN ns (2 + (i : Int)) / 4) (by decide : (2 : Int) ≠ 0)
  have eS : (List.range (i + 1)).map (fun s => lsD (sideN7 ns s b)) = ((List.range i).map fun s => lsD (sideN7 ns s b)) ++ [lsD (sideN7 ns i b)] := by rw [List.range_succ, List.map_append]; rfl
  have rl : ((List.range i).map fun s => lsD (sideN7 ns s b)).length = i := by rw [List.length_map, List.length_range]
  rw [eS]
  generalize (List.range i).map (fun s => lsD (sideN7 ns s b)) = S at rl
  refine puo_forget (ρ' := [some (.d (intsD ns)), some (.d (.int b)), some (.d (.int z)), none, none, none, none, some (.o (S ++ [lsD (sideN7 ns i b)])), some (.d (.int (i : Int))), none]) 8 (puo_forget (ρ' := [some (.d (intsD ns)), some (.d (.int b)), some (.d (.int z)), none, none, none, none, some (.o (S ++ [lsD (sideN7 ns i b)])), some (.d (.int (i : Int))), some (.d (lsD (rowN7 ns i b)))]) 9 ?_)
  refine puo_new (i := 9) (ds := []) pu_nil (by decide) ?_
  refine puo_seq (ρ' := [some (.d (intsD ns)), some (.d (.int b)), some (.d (.int z)), none, none, none, none, some (.o S), some (.d (.int (i : Int))), some (.o ((rowN7 ns i b).map Fm.toD))]) ?_ (puo_freeze (i := 9) (ds := (rowN7 ns i b).map Fm.toD) rfl (puo_append (i := 7) (ds := S) rfl (by omega) ?_))
  · refine puo_for (k := (cellN ns (2 + (i : Int)) % 4).toNat) (xs := List.range (cellN ns (2 + (i : Int)) % 4).toNat) (td := fun (i : Nat) => PyData.int (0 + (i : Int))) (fun j => [some (.d (intsD ns)), some (.d (.int b)), some (.d (.int z)), none, none, none, none, some (.o S), some (.d (.int (i : Int))), some (.o (((rowN7 ns i b).take j).map Fm.toD))])
      (pui_rng1 (n := cellN ns (2 + (i : Int)) % 4) (pu_mod (cell (2 + (i : Int)) (pu_add (pu_int 2) (pu_var rfl)) (by omega) rfl) (pu_int 4) (by decide)) (by omega) (by omega)) rfl (by rw [List.length_range]; exact Nat.le_refl _) (fun j x hj hx => ⟨_, pgo_name 6, .inl ?_⟩) (.inl ⟨by rw [List.length_range], by rw [← lr, List.take_length]⟩)
    rw [List.getElem?_range hj] at hx
    cases hx
    rw [Int.zero_add]
    have jl : j < (rowN7 ns i b).length := by omega
    have ej : (rowN7 ns i b)[j]? = some (formN 2 (cellN ns (4 + 3 * (i : Int) + (j : Int)) * 48271 % 1000003) b) := by
      unfold rowN7
      rw [List.getElem?_map, List.getElem?_range hj]
      rfl
    have et : (rowN7 ns i b).take (j + 1) = (rowN7 ns i b).take j ++ [formN 2 (cellN ns (4 + 3 * (i : Int) + (j : Int)) * 48271 % 1000003) b] := by rw [List.take_succ, ej]; rfl
    rw [et, List.map_append]
    have tl : (((rowN7 ns i b).take j).map Fm.toD).length ≤ 3 := by rw [List.length_map, List.length_take]; omega
    generalize ((rowN7 ns i b).take j).map Fm.toD = Rj at tl
    refine puo_forget (ρ' := [some (.d (intsD ns)), some (.d (.int b)), some (.d (.int z)), none, none, none, some (.d (.int (j : Int))), some (.o S), some (.d (.int (i : Int))), some (.o (Rj ++ [formN 2 (cellN ns (4 + 3 * (i : Int) + (j : Int)) * 48271 % 1000003) b].map Fm.toD))]) 6 (puo_append (i := 9) (ds := Rj) rfl (by omega) ?_)
    exact pu_call (pu_cons (pu_mod (pu_mul (cell (4 + 3 * (i : Int) + (j : Int)) (pu_add (pu_add (pu_int 4) (pu_mul (pu_int 3) (pu_var rfl) (.inl ⟨by decide, by decide⟩))) (pu_var rfl)) (by omega) rfl) (pu_int 48271) (cmul48 _)) (pu_int 1000003) (by decide)) (pu_cons (pu_int 2) (pu_cons (pu_var rfl) pu_nil))) rfl ⟨_, b, 2, rfl, by decide, rfl⟩
  · unfold sideN7
    refine (pu_cat (ds := (rowN7 ns i b).map Fm.toD) (es := ((rowN7 ns i b).map Fm.toD).take (cellN ns (2 + (i : Int)) / 4 % 2).toNat) (pu_var rfl) (pu_to (n := (cellN ns (2 + (i : Int)) / 4 % 2).toNat) (pu_var rfl) ((pu_mod (pu_fdiv (cell (2 + (i : Int)) (pu_add (pu_int 2) (pu_var rfl)) (by omega) rfl) (pu_int 4) ⟨by decide, by decide⟩) (pu_int 2) (by decide)).cast (by rw [Int.toNat_of_nonneg hj0]))) ?_).cast ?_
    · rw [List.length_take, List.length_map]; omega
    · rw [← List.map_take, ← List.map_append]; rfl
end
end Lm
set_option Elab.async false
set_option linter.all false
set_option maxRecDepth 100000
set_option maxHeartbeats 1000000
namespace Lm
open PySem PySem.Spec PyProof.Rows L2 LamX
def spLawT (K : PySem.W.Frag) (P0 : Addr) : Sp := fun vs H Q _ => ∃ (a : Addr) (ns : List Int), vs = [.ref a] ∧ SqL K H a (ns.map V.int) ∧ ns.length ≤ 63 ∧ H P0 = some (.tbl #[]) ∧ ∀ H', Q (.bl true) H'
theorem tabs_start {H : Hp} {P0 : Addr} (h : H P0 = some (.tbl #[])) : Tabs (nextT P0) H := fun p hp => by
  rw [List.mem_singleton.mp hp]
  exact TabS.nil h
theorem vis_get {M : Addr → Bool} {H : Hp} {b : Addr} {o : HO} (h : vis M H b = some o) : M b = false ∧ H b = some o := by
  unfold vis at h
  split at h
  · cases h
  · rename_i c
    exact ⟨by simpa using c, h⟩
theorem DecV.same {K : PySem.W.Frag} {H0 H H' : Hp} {v : V} {c : Cl} (h : DecV K H0 H v c) (e : Same H H') : DecV K H0 H' v c := by
  unfold DecV at h ⊢
  cases z : search 61 (onceC c) with
  | world ws =>
    rw [z] at h
    obtain ⟨t, l, h1, st, n, hl⟩ := h
    exact ⟨t, l, h1, sqT_same e st, n, e _ _ hl⟩
  | proof p =>
    rw [z] at h
    obtain ⟨t, L, vs, h1, st, n, hL, ln⟩ := h
    exact ⟨t, L, vs, h1, sqT_same (vis_same e) st, n, e _ _ hL, ln.same (vis_same e)⟩
def decW (c : Cl) : Str :=
  match search 61 (onceC c) with
  | .world _ => "world"
  | .proof _ => "chain"
theorem DecV.word {K : PySem.W.Frag} {H0 H : Hp} {v : V} {c : Cl} (h : DecV K H0 H v c) : ∃ t x, v = .ref t ∧ SqT K H t [.str (decW c), x] := by
  unfold DecV at h
  unfold decW
  cases z : search 61 (onceC c) with
  | world ws =>
    rw [z] at h
    obtain ⟨t, l, h1, st, _⟩ := h
    exact ⟨t, _, h1, st⟩
  | proof p =>
    rw [z] at h
    obtain ⟨t, L, vs, h1, st, _⟩ := h
    exact ⟨t, _, h1, sqT_ext (Ext_of vis_but) st⟩
theorem shp_clC {c : Cl} (g : GdC c) : Shp 14 c.toD := by
  refine shp_tup fun d hd => ?_
  simp only [List.mem_cons, List.not_mem_nil, or_false] at hd
  rcases hd with rfl | rfl
  · exact shp_lst fun d hd => by
      obtain ⟨f, hf, rfl⟩ := List.mem_map.mp hd
      exact shp_fm f (Nat.le_trans (g.1 f hf).2 (by decide))
  · exact shp_lst fun d hd => by
      obtain ⟨f, hf, rfl⟩ := List.mem_map.mp hd
      exact shp_fm f (Nat.le_trans (g.2 f hf).2 (by decide))
/-- slots alike but for one that is not told -/
theorem EnvD.but {K : PySem.W.Frag} {H : Hp} {σ σ' : L2.St} {ρ : Rho} (h : EnvD K H σ ρ) {j : Nat} (z : ρ[j]? = some none) (l : σ'.length = σ.length) (s : ∀ i, i ≠ j → σ'[i]? = σ[i]?) : EnvD K H σ' ρ := by
  refine ⟨l.trans h.1, fun i d hd => ?_⟩
  obtain ⟨u, au, du⟩ := h.2 i d hd
  refine ⟨u, ?_, du⟩
  rw [s i fun y => by rw [y, z] at hd; cases hd]
  exact au
theorem dec_good {c : Cl} (gc : GdC c) (wc : wordsC c ≤ 60) (hl : lim (onceC c) ≤ lnCap) : Good7 c (decD c) := by
  unfold decD
  cases e : search 61 (onceC c) with
  | world ws => exact .inl ⟨ws, rfl, dec_world gc wc e⟩
  | proof p =>
    obtain ⟨h1, h2, ⟨ls, l, e2, ec⟩, h4, _⟩ := dec_lines gc wc hl e
    refine .inr ⟨_, rfl, ⟨h1, by rw [e2]; simp, fun x hx => ?_, Nat.le_trans h4 (by decide)⟩, ?_, fun x hx => ?_⟩
    · have z := h2 x hx
      obtain ⟨w, f, er, _, gf, df⟩ := z.rl
      refine ⟨⟨z.cs, z.ok.2⟩, ?_, Nat.le_trans z.ul (by decide)⟩
      rw [er]
      exact ⟨gf, df⟩
    · rw [e2, List.length_append, List.length_singleton, Nat.add_sub_cancel, clAt_get (l := l) (by rw [List.getElem?_append_right (Nat.le_refl _), Nat.sub_self]; rfl), ec]
      exact ⟨fun f => mem_once, fun f => mem_once⟩
    · obtain ⟨w, f, er, hw, _⟩ := (h2 x hx).rl
      exact ⟨w, f, er, hw⟩
section
variable {P : Program} {w : World} {K : PySem.W.Frag} {mg : Str → Option Value} {base : Heap} {f : Addr} {fd : FuncData}
theorem scLaw : FnScope ["_law_script", "_law_base", "_law_claim_here", "_law_handed", "_law_found", "_law_line", "_law_again"] ["_law_script"] (defScope sLaw) := ⟨rfl, rfl, rfl, by decide +kernel, rfl, by decide +kernel, by decide +kernel⟩
theorem ok_law7 {P0 : Addr} (D : Df K mg "law" sLaw ["_law_script"] f fd) (B : Blt mg) (h_law_first : Has P w K mg base 2 "_law_first" ["_law_script"] (spPu K 1 gFirst)) (h_law_claim : Has P w K mg base 19 "_law_claim" ["_law_script", "_law_base"] (spPu K 2 gClaim7)) (h_decided : Has P w K mg base 79 "decided" ["claim"] (spDecidedC K P0)) (h_law_good : Has P w K mg base 19 "_law_good" ["_law_found", "_law_claim_here"] (spPu K 2 gGood7)) :
    FnOk P w K mg base CX0 80 f fd ["_law_script"] (spLawT K P0) := by
  refine D.fn.ok scLaw (fun vs H Q E h => ?_) (fun cdv A outer s H vs Q E hr h => ?_)
  · obtain ⟨a, ns, rfl, _⟩ := h
    rfl
  obtain ⟨a, ns, rfl, hS, h63, hP, q⟩ := h
  have hu : (A.deeper (envOfC "law" (defScope sLaw) s.heap.objs.size f cdv)).units + 65 < cLine := by have := hr.un; omega
  refine ⟨_, (pss_cons (ps_set (i := 1) scLaw.nd rfl (by first | exact Or.inl rfl | exact Or.inr rfl) (pe_op op_mod (pe_callH h_law_first (hr.mono (by omega)) (by rfl) (pa_cons (pv 0) pa_nil)) pe_int))
    (pss_cons (ps_set (i := 2) scLaw.nd rfl (by first | exact Or.inl rfl | exact Or.inr rfl) (pe_callH h_law_claim (hr.mono (by omega)) (by rfl) (pa_cons (pv 0) (pa_cons (pv 1) pa_nil))))
    (pss_cons (ps_set (i := 3) scLaw.nd rfl (by first | exact Or.inl rfl | exact Or.inr rfl) (pe_callH h_law_claim (hr.mono (by omega)) (by rfl) (pa_cons (pv 0) (pa_cons (pv 1) pa_nil))))
    (pss_cons (ps_set (i := 4) scLaw.nd rfl (by first | exact Or.inl rfl | exact Or.inr rfl) (pe_callH h_decided (hr.mono (by omega)) (by rfl) (pa_cons (pv 3) pa_nil)))
    (pss_cons (ps_if (PW.pt (pw_or (pt_not (pt_val (pe_callH h_law_good (hr.mono (by omega)) (by rfl) (pa_cons (pv 4) (pa_cons (pv 2) pa_nil))))) (pw_or1 (pt_cmpR (r := rNeD K) (op_neD (Nat.lt_of_succ_lt hu)) (pv 3) (pv 2) (nomark _))))) (pss_one (ps_ret pe_bl)) pss_nil)
    (pss_cons (ps_if (pt_cmpR op_eq (pe_ix (r := rIxT K) ix_tup (pv 4) pe_int (fun _ _ => rfl)) pe_str (nomark _)) (pss_one (ps_for PassesOwn.never rfl (pi_list (pe_ix (r := rIxT K) ix_tup (pv 4) pe_int (fun _ _ => rfl))) (pg_name (i := 5) scLaw.nd rfl (by first | exact Or.inl rfl | exact Or.inr rfl)) (pss_cons (ps_expr (pe_bm PySem.F.plainAttrs_list PySem.F.slot_list_append PySem.F.type_list_append mt_append (pe_ix (r := rIxT K) ix_tup (pe_ix (r := rIxT K) ix_tup (pv 5) pe_int (fun _ _ => rfl)) pe_int (fun _ _ => rfl)) (pa_cons (pe_tup (pa_cons pe_str (pa_cons (pe_op op_mod (pv 1) pe_int) pa_nil))) pa_nil)))
    (pss_one (ps_expr (pe_bm PySem.F.plainAttrs_list PySem.F.slot_list_append PySem.F.type_list_append mt_append (pe_ix (r := rIxT K) ix_tup (pv 5) pe_int (fun _ _ => rfl)) (pa_cons pe_int pa_nil))))))) (pss_one (ps_expr (pe_bm PySem.F.plainAttrs_list PySem.F.slot_list_append PySem.F.type_list_append mt_append (pe_ix (r := rIxT K) ix_tup (pv 4) pe_int (fun _ _ => rfl)) (pa_cons (pv 1) pa_nil)))))
    (pss_cons (ps_set (i := 6) scLaw.nd rfl (by first | exact Or.inl rfl | exact Or.inr rfl) (pe_callH h_decided (hr.mono (by omega)) (by rfl) (pa_cons (pv 3) pa_nil)))
    (pss_one (ps_ret (pe_and (pe_cmpR (r := rEqD K) (op_eqD (Nat.lt_of_succ_lt hu)) (pv 3) (pv 2) (nomark _)) (pe_and (pe_cmpR op_eq (pe_ix (r := rIxT K) ix_tup (pv 6) pe_int (fun _ _ => rfl)) (pe_ix (r := rIxT K) ix_tup (pv 4) pe_int (fun _ _ => rfl)) (nomark _)) (pe_one (pe_callH h_law_good (hr.mono (by omega)) (by rfl) (pa_cons (pv 6) (pa_cons (pv 2) pa_nil))))))))))))))), ?_⟩
  have hT := tabs_start hP
  have en : EnvD K (vis (fun _ => false) H) (L2.start ["_law_script", "_law_base", "_law_claim_here", "_law_handed", "_law_found", "_law_line", "_law_again"] [V.ref a]) (startD ["_law_script", "_law_base", "_law_claim_here", "_law_handed", "_law_found", "_law_line", "_law_again"] [intsD ns]) := envD_start (DpAll.cons (by rw [vis_none]; exact dp_intsL hS) .nil)
  generalize L2.start ["_law_script", "_law_base", "_law_claim_here", "_law_handed", "_law_found", "_law_line", "_law_again"] [V.ref a] = σ at en
  dsimp only [tSeq]
  generalize hb : firstN ns % 600 = b
  obtain ⟨gc, wc, hlim⟩ := claim7 ns b
  have lowc := cl_low wc gc
  have d1 : ∀ g ∈ (claimN7 ns b).1, g.dep ≤ 13 := fun g hg => Nat.le_trans (gc.1 g hg).2 (by decide)
  have d2 : ∀ g ∈ (claimN7 ns b).2, g.dep ≤ 13 := fun g hg => Nat.le_trans (gc.2 g hg).2 (by decide)
  have shc := shp_clC gc
  have good := dec_good gc wc hlim
  have clm : ∀ {ρ : Rho}, ρ[0]? = some (some (intsD ns)) → ρ[1]? = some (some (.int b)) → PuE K (tCall (spPu K 2 gClaim7) [] E0 (tCons (tVar 0) (tCons (tVar 1) tNil))) ρ (claimN7 ns b).toD := fun h h1 => pu_call (pu_cons (pu_var h) (pu_cons (pu_var h1) pu_nil)) rfl ⟨ns, b, rfl, h63, rfl⟩
  generalize claimN7 ns b = c at *
  refine pus_set1 (i := 1) (d := .int b) ((pu_mod (pu_call (pu_cons (pu_var rfl) pu_nil) rfl ⟨ns, rfl, rfl⟩) (pu_int 600) (by decide)).cast (by rw [hb])) _ σ H Hid.none en _ fun σ1 H1 e1 en1 => ?_
  dsimp only [tSeq]
  refine pus_set1 (i := 2) (d := c.toD) (clm rfl rfl) _ σ1 H1 Hid.none en1 _ fun σ2 H2 e2 en2 => ?_
  dsimp only [tSeq]
  refine pus_set1 (i := 3) (d := c.toD) (clm rfl rfl) _ σ2 H2 Hid.none en2 _ fun σ3 H3 e3 en3 => ?_
  dsimp only [tSeq]
  have en3 : EnvD K (vis (fun _ => false) H3) σ3 [some (intsD ns), some (.int b), some c.toD, some c.toD, none, none, none] := en3
  rw [vis_none] at en3
  have hT3 : Tabs (nextT P0) H3 := hT.ext (e1.trans (e2.trans e3))
  obtain ⟨v3, a3, dv3⟩ := en3.2 3 _ rfl
  have len3 : σ3.length = 7 := en3.1
  refine ⟨v3, a3, v3, c, rfl, dv3, gc, wc, hT3, hlim, fun v4 H4 g4 dv4 => ?_⟩
  dsimp only [gName, tSeq]
  have a4 : (σ3.set 4 (some v4))[4]? = some (some v4) := List.getElem?_set_self (by omega)
  have en4 : EnvD K H4 (σ3.set 4 (some v4)) [some (intsD ns), some (.int b), some c.toD, some c.toD, some (decD c), none, none] := (en3.ext g4.ext).put dv4.dp 4
  have en4n : EnvD K H3 (σ3.set 4 (some v4)) [some (intsD ns), some (.int b), some c.toD, some c.toD, none, none, none] := en3.off rfl
  have len4 : (σ3.set 4 (some v4)).length = 7 := by rw [List.length_set]; exact len3
  generalize σ3.set 4 (some v4) = σ4 at a4 en4 en4n len4 ⊢
  have tg : PuT K (tOr (tNot (tB (tCall (spPu K 2 gGood7) [] E0 (tCons (tVar 4) (tCons (tVar 2) tNil))))) (tTest (tOp (rNeD K) (tVar 3) (tVar 2)))) [some (intsD ns), some (.int b), some c.toD, some c.toD, some (decD c), none, none] false :=
    pu_or_r (pu_tNot (b := true) (pu_tB (pu_call (pu_cons (pu_var rfl) (pu_cons (pu_var rfl) pu_nil)) rfl ⟨decD c, c, rfl, lowc, d1, d2, good, rfl⟩))) ((pu_tTest (pu_neD (d := c.toD) (e := c.toD) (pu_var rfl) (pu_var rfl) (shc.ok (by decide)) (shc.ok (by decide)))).cast (by rw [shc.refl]; rfl))
  refine tg (fun _ => false) σ4 H4 Hid.none (by rw [vis_none]; exact en4) _ fun H5 e5 => ?_
  refine iteF ?_
  dsimp only [tNext, tSeq]
  have g5 := g4.same e5
  have dv5 := dv4.same e5
  obtain ⟨t, x, rfl, st⟩ := dv5.word
  -- asked again
  have cont : ∀ (σ' : L2.St) (Hn : Hp) (n : Nat) (kp : Addr → Bool), σ'.length = σ4.length → (∀ j, j ≠ 5 → σ'[j]? = σ4[j]?) → Mut kp H3 H5 n Hn →
      tSeq (tAsg (tCall (spDecidedC K P0) [] E0 (tCons (tVar 3) tNil)) (gName 6)) (tRet (tAndV (tOp (rEqD K) (tVar 3) (tVar 2)) (tAndV (tOp rEq (tOp (rIxT K) (tVar 6) (tC (.int 0))) (tOp (rIxT K) (tVar 4) (tC (.int 0)))) (tCall (spPu K 2 gGood7) [] E0 (tCons (tVar 6) (tCons (tVar 2) tNil)))))) { nx := fun _ H' => Q .non H', rt := Q } σ' Hn := fun σ' Hn n kp l' s' mu => by
    have gn := mu.grew g5
    have en' : EnvD K Hn σ' [some (intsD ns), some (.int b), some c.toD, some c.toD, none, none, none] := (en4n.ext gn.ext).but (j := 5) rfl l' s'
    have a4' : σ'[4]? = some (some (.ref t)) := by rw [s' 4 (by decide)]; exact a4
    obtain ⟨w3, b3, dw3⟩ := en'.2 3 _ rfl
    have len' : σ'.length = 7 := en'.1
    refine ⟨w3, b3, w3, c, rfl, dw3, gc, wc, gn.tabs, hlim, fun v6 H6 g6 dv6 => ?_⟩
    dsimp only [gName]
    have a46 : (σ'.set 6 (some v6))[4]? = some (some (.ref t)) := by rw [List.getElem?_set_ne (by decide)]; exact a4'
    have a6 : (σ'.set 6 (some v6))[6]? = some (some v6) := List.getElem?_set_self (by omega)
    have en6 : EnvD K H6 (σ'.set 6 (some v6)) [some (intsD ns), some (.int b), some c.toD, some c.toD, none, none, some (decD c)] := (en'.ext g6.ext).put dv6.dp 6
    generalize σ'.set 6 (some v6) = σ6 at a46 a6 en6 ⊢
    obtain ⟨t6, x6, rfl, st6⟩ := dv6.word
    have teq : PuE K (tOp (rEqD K) (tVar 3) (tVar 2)) [some (intsD ns), some (.int b), some c.toD, some c.toD, none, none, some (decD c)] (.bool true) := (pu_eqD (d := c.toD) (e := c.toD) (pu_var rfl) (pu_var rfl) (shc.ok (by decide)) (shc.ok (by decide))).cast (by rw [shc.refl])
    refine teq (fun _ => false) σ6 H6 Hid.none (by rw [vis_none]; exact en6) _ fun w H7 e7 hw => ?_
    refine ⟨true, dp_blI hw, iteT ?_⟩
    have st7 : SqT K H7 t [.str (decW c), x] := sqT_ext (g6.ext.trans (Ext_of e7)) (mu.sqT st)
    refine ⟨.ref t6, a6, t6, _, 0, _, rfl, rfl, sqT_same e7 st6, at0 _ _, .ref t, a46, t, _, 0, _, rfl, rfl, st7, at0 _ _, rfl, _, rfl, ?_⟩
    rw [decide_eq_true rfl]
    refine iteT ?_
    have tg6 : PuE K (tCall (spPu K 2 gGood7) [] E0 (tCons (tVar 6) (tCons (tVar 2) tNil))) [some (intsD ns), some (.int b), some c.toD, some c.toD, none, none, some (decD c)] (.bool true) := pu_call (pu_cons (pu_var rfl) (pu_cons (pu_var rfl) pu_nil)) rfl ⟨decD c, c, rfl, lowc, d1, d2, good, rfl⟩
    refine tg6 (fun _ => false) σ6 H7 Hid.none (by rw [vis_none]; exact en6.same e7) _ fun u H8 e8 hu => ?_
    rw [dp_blI hu]
    exact q H8
  refine ⟨.ref t, a4, t, _, 0, _, rfl, rfl, st, at0 _ _, rfl, _, rfl, ?_⟩
  have a1 : σ4[1]? = some (some (.int b)) := by
    obtain ⟨u, au, du⟩ := en4.2 1 _ rfl
    rw [dp_intI du] at au
    exact au
  unfold DecV at dv5
  cases er : search 61 (onceC c) with
  | world ws =>
    rw [er] at dv5
    obtain ⟨t', l, et, st', nl, hl⟩ := dv5
    cases et
    have ew : decW c = ("world" : Str) := by unfold decW; rw [er]
    rw [ew, decide_eq_false (by decide +kernel)]
    refine iteF ?_
    have lw : ws.length ≤ 100 := by
      have wok := dec_world gc wc er
      exact few_ints 100 ws wok.nd fun i hi => by have := wok.rng i hi; omega
    refine ⟨.ref t, a4, t, _, 1, _, rfl, rfl, st', at1 _ _ _, .inl ⟨rfl, _, .inl (.inl hl)⟩, _, a1, l, _, _, rfl, rfl, hl, by rw [List.length_map]; exact sl1001 (by omega), ?_⟩
    exact cont σ4 _ 1 (fun _ => false) rfl (fun _ _ => rfl) (Mut.start.write hl nl rfl hl (by rw [List.length_append, List.length_singleton]; exact Nat.le_refl _))
  | proof p =>
    rw [er] at dv5
    obtain ⟨t', L, vs, et, st', nL, hL, lns⟩ := dv5
    cases et
    obtain ⟨_, lnS, _, lmax, _⟩ := dec_lines gc wc hlim er
    have lcap : lnCap = 600000 := rfl
    have szc := sizeLine_eq
    have lvs : vs.length = (decL (onceC c) p).length := Paired.length lns
    have ew : decW c = ("chain" : Str) := by unfold decW; rw [er]
    rw [ew, decide_eq_true rfl]
    refine iteT ?_
    refine ⟨.ref t, a4, t, _, 1, _, rfl, rfl, sqT_ext (Ext_of vis_but) st', at1 _ _ _, L, rfl, ⟨vs, SqL.of hL⟩, fun i m σ' Hn => m = vs.length - i ∧ i ≤ vs.length ∧ σ'.length = σ4.length ∧ (∀ j, j ≠ 5 → σ'[j]? = σ4[j]?) ∧ Mut (but L) H3 H5 (2 * i) Hn, ⟨_, rfl, Nat.zero_le _, rfl, fun _ _ => rfl, Mut.start⟩, ?_⟩
    rintro i m σ' Hn ⟨rfl, ile, l', s', mu⟩
    have kL : but L L = true := beq_self_eq_true L
    have hLn := mu.kept hL (.inl kL)
    by_cases ci : i < vs.length
    · refine .inr ⟨⟨vs, vs[i], SqL.of hLn, List.getElem?_eq_getElem ci⟩, fun σ' Hn => σ'.length = σ4.length ∧ (∀ j, j ≠ 5 → σ'[j]? = σ4[j]?) ∧ Mut (but L) H3 H5 (2 * (i + 1)) Hn, fun σ' H' nx => ⟨_, by omega, rfl, ci, nx⟩, fun y Hy z => ?_⟩
      obtain ⟨rfl, z⟩ := z
      have hx := z vs (SqL.of hLn)
      have li : i < (decL (onceC c) p).length := by omega
      obtain ⟨tt, u, vc, vr, rfl, stt, nw, hr', nu, hu'⟩ := paired_at lns hx (List.getElem?_eq_getElem li)
      have lsi := lnS _ (List.getElem_mem li)
      generalize (decL (onceC c) p)[i] = ln at nw hr' hu' lsi
      obtain ⟨tc, a', b', xs, ys, rfl, sc, na, nb, ha, hb', dxs, dys⟩ := nw
      obtain ⟨ka, ha5⟩ := vis_get ha
      obtain ⟨ku, hu5⟩ := vis_get hu'
      have stt5 := sqT_ext (Ext_of vis_but) stt
      have sc5 := sqT_ext (Ext_of vis_but) sc
      have lxs : xs.length ≤ 60 := by
        have h1 := dpAll_len dxs
        rw [List.length_map] at h1
        have h2 := words_len ln.c.1
        have h3 := lsi.ok.2
        have h4 : wordsC ln.c = wordsS ln.c.1 + wordsS ln.c.2 := rfl
        omega
      have lu := lsi.ul
      dsimp only [gName, tSeq]
      have len' : σ'.length = 7 := by omega
      have k5 : (σ'.set 5 (some (.ref tt)))[5]? = some (some (.ref tt)) := List.getElem?_set_self (by omega)
      have k1 : (σ'.set 5 (some (.ref tt)))[1]? = some (some (.int b)) := by rw [List.getElem?_set_ne (by decide), s' 1 (by decide)]; exact a1
      have l'' : (σ'.set 5 (some (.ref tt))).length = σ4.length := by rw [List.length_set]; exact l'
      have s'' : ∀ j, j ≠ 5 → (σ'.set 5 (some (.ref tt)))[j]? = σ4[j]? := fun j hj => by rw [List.getElem?_set_ne hj.symm]; exact s' j hj
      generalize σ'.set 5 (some (.ref tt)) = σ'' at k5 k1 l'' s'' ⊢
      obtain ⟨ya, hya, lya, _⟩ := mu.lst a' xs ha5
      refine ⟨.ref tt, k5, tt, _, 0, _, rfl, rfl, mu.sqT stt5, at0 _ _, tc, _, 0, _, rfl, rfl, mu.sqT sc5, at0 _ _, .inl ⟨rfl, _, .inl (.inl hya)⟩, _, k1, b, 100, rfl, rfl, (by decide : (0 : Int) < 100), sl1000 (by show 2 ≤ 100000; decide), fun z nz => ⟨a', ya, .ref z, rfl, rfl, (upd_ne (ne_of_none hya nz)).trans hya, by omega, ?_⟩⟩
      have m1 := (mu.same (same_new nz (.tup [.str ("sign" : Str), .int (b % 100)]))).write (zs := ya ++ [.ref z]) ha5 na ka ((upd_ne (ne_of_none hya nz)).trans hya) (by rw [List.length_append, List.length_singleton]; exact Nat.le_refl _)
      generalize upd (upd Hy z (.tup [.str ("sign" : Str), .int (b % 100)])) a' (.lst (ya ++ [.ref z])) = Ha at m1 ⊢
      obtain ⟨yu, hyu, lyu, _⟩ := m1.lst u _ hu5
      rw [List.length_map] at lyu
      refine ⟨.ref tt, k5, tt, _, 2, _, rfl, rfl, m1.sqT stt5, atI_nat (j := 2) rfl, .inl ⟨rfl, _, .inl (.inl hyu)⟩, u, yu, _, rfl, rfl, hyu, by omega, ?_⟩
      exact ⟨l'', s'', m1.write hu5 nu ku hyu (by rw [List.length_append, List.length_singleton]; exact Nat.le_refl _)⟩
    · refine .inl ⟨⟨vs, SqL.of hLn, by omega⟩, cont σ' Hn _ _ l' s' mu⟩
end
end Lm
set_option Elab.async false
set_option linter.all false
set_option maxRecDepth 100000
set_option maxHeartbeats 2000000
namespace Lm
open PySem PySem.Spec PyProof.Rows L2
theorem isStr_str (y : Str) (t : Tok) (x : Str) : Value.isStr (.str y t) x = (y == x) := rfl
theorem many_mk {K : PySem.W.Frag} {w : World} {dd : Addr} {t1 t2 t3 t4 u1 u2 u3 u4 : Tok} {g1 g2 g3 g4 : Int} {m : Nat}
    (ld : K.lookup dd = some ⟨.type "dict", none, .dict #[⟨g1, .str "not" t1, .int 1 u1⟩, ⟨g2, .str "and" t2, .int 2 u2⟩, ⟨g3, .str "or" t3, .int 2 u3⟩, ⟨g4, .str "then" t4, .int 2 u4⟩] m, #[]⟩)
    (e1 : g1 = PyData.keyHash w.params "not") (e2 : g2 = PyData.keyHash w.params "and") (e3 : g3 = PyData.keyHash w.params "or") (e4 : g4 = PyData.keyHash w.params "then") (low : (dd == sysModules) = false) :
    ManyD K w dd #[⟨g1, .str "not" t1, .int 1 u1⟩, ⟨g2, .str "and" t2, .int 2 u2⟩, ⟨g3, .str "or" t3, .int 2 u3⟩, ⟨g4, .str "then" t4, .int 2 u4⟩] m := by
  have at_ : ∀ x : Str, PySem.W.nsIn K dd x = (match [(⟨g1, .str "not" t1, .int 1 u1⟩ : DictEntry), ⟨g2, .str "and" t2, .int 2 u2⟩, ⟨g3, .str "or" t3, .int 2 u3⟩, ⟨g4, .str "then" t4, .int 2 u4⟩].find? (·.key.isStr x) with
      | some e => some (some e.val)
      | none => some none) := fun x => by
    unfold PySem.W.nsIn
    rw [ld]
    rfl
  have n1 : (("not" : Str) == ("and" : Str)) = false := by decide +kernel
  have n2 : (("not" : Str) == ("or" : Str)) = false := by decide +kernel
  have n3 : (("not" : Str) == ("then" : Str)) = false := by decide +kernel
  have n4 : (("and" : Str) == ("or" : Str)) = false := by decide +kernel
  have n5 : (("and" : Str) == ("then" : Str)) = false := by decide +kernel
  have n6 : (("or" : Str) == ("then" : Str)) = false := by decide +kernel
  refine ⟨⟨ld, ⟨⟨_, _, rfl, e1⟩, ⟨_, _, rfl, e2⟩, ⟨_, _, rfl, e3⟩, ⟨_, _, rfl, e4⟩, True.intro⟩, low⟩, ⟨u1, ?_⟩, ⟨u2, ?_⟩, ⟨u3, ?_⟩, ⟨u4, ?_⟩, fun x hx => ?_⟩
  · rw [at_]
    simp only [List.find?_cons, isStr_str, beq_self_eq_true]
  · rw [at_]
    simp only [List.find?_cons, isStr_str, beq_self_eq_true, n1]
  · rw [at_]
    simp only [List.find?_cons, isStr_str, beq_self_eq_true, n2, n4]
  · rw [at_]
    simp only [List.find?_cons, isStr_str, beq_self_eq_true, n3, n5, n6]
  · rw [at_]
    unfold arOf at hx
    split at hx
    · cases hx
    rename_i h1
    split at hx
    · cases hx
    rename_i h2
    split at hx
    · cases hx
    rename_i h3
    split at hx
    · cases hx
    rename_i h4
    have k1 : (("not" : Str) == x) = false := beq_eq_false_iff_ne.mpr fun z => h1 z.symm
    have k2 : (("and" : Str) == x) = false := beq_eq_false_iff_ne.mpr fun z => h2 z.symm
    have k3 : (("or" : Str) == x) = false := beq_eq_false_iff_ne.mpr fun z => h3 z.symm
    have k4 : (("then" : Str) == x) = false := beq_eq_false_iff_ne.mpr fun z => h4 z.symm
    simp only [List.find?_cons, isStr_str, k1, k2, k3, k4, List.find?_nil]
theorem kit_self {K : PySem.W.Frag} (D : Addr) : PySem.W.kitOne K (.ref D) (.ref D) = some true := by
  unfold PySem.W.kitOne
  rw [if_pos (beq_self_eq_true _)]
theorem kit_ref {K : PySem.W.Frag} {D C : Addr} {b : Bool} (hd : PySem.W.hasDictIn K C = true) (ht : PySem.W.typeIn K (.ref C) = some (.type "type")) (hs : PySem.W.subIn K (.ref D) (.ref C) = some b) (ne : (Value.ref D == Value.ref C) = false) : PySem.W.kitOne K (.ref D) (.ref C) = some b := by
  obtain ⟨cd, hc, _⟩ := PySem.W.any_some hd
  have e2 : ((PySem.W.clsIn K C).isSome && PySem.W.typeIn K (.ref C) == some (.type "type")) = true := by rw [hc, ht] <;> rfl
  unfold PySem.W.kitOne
  rw [ne, if_neg Bool.false_ne_true]
  show (if ((PySem.W.clsIn K C).isSome && PySem.W.typeIn K (.ref C) == some (.type "type")) = true then PySem.W.subIn K (.ref D) (.ref C) else none) = some b
  rw [if_pos e2, hs]
theorem kit_bi {K : PySem.W.Frag} {D : Addr} {T : String} {b : Bool} (hm : PySem.W.kitMeta T = true) (hs : PySem.W.subIn K (.ref D) (.type T) = some b) : PySem.W.kitOne K (.ref D) (.type T) = some b := by
  unfold PySem.W.kitOne
  rw [show (Value.ref D == Value.type T) = false from rfl, if_neg Bool.false_ne_true]
  show (if PySem.W.kitMeta T = true then PySem.W.subIn K (.ref D) (.type T) else none) = some b
  rw [if_pos hm, hs]
/-- the end where another def of the program holds a lambda -/
theorem walk_tab {l : PySem.W.OpenLaw} {n k : Nat} {q : Program} {loose : List Str} {XP : (Str → Option Value) → Heap → Prop} {YP : World → Heap → Prop} {d : DefRec} {K : Params → PySem.W.Frag} {CX : World → CXT} {x y : Str}
    (most : l.most = some n) (small : n ≤ sizeLine) (nod : d.params.defaults = []) (room : Room k callerA) (there : ((recsOf q).any fun e => e.name == y) = true) (written : ∀ (w : World) (h : Heap), YP w h → (K w.params).In h)
    (at_ : ∀ (w : World) (mg : Str → Option Value) (fa : Addr) (h : Heap), YP w h → (K w.params).In h → h.Ns mainGlobals mg → mg d.name = some (.ref fa) → (∀ fb, mg y = some (.ref fb) → LamX.OwnTab (K w.params) fb h) → LamX.LawAtS l w (K w.params) (CX w) k n x mg fa h)
    (calm : ∀ (w : World) (H : Hp) (s : Shared) (e : Value) (s' : Shared), CX w [] H s (fun _ _ _ => False) e s' → False) :
    PySem.W.WalkO q loose XP YP l.row.toRowW d [] (fun f vs => PySem.call f vs) := by
  refine Att.attach_callB most nod fun w0 sA sB mg0 mb0 fa0 o0 pm0 cd0 doc0 a0 vs0 ns0 G0 Y0 ho0 hd0 hcd0 hmg0 hobj0 hints0 hlen0 hbits0 hg0 => ?_
  have W0 := written w0 _ Y0
  have own : ∀ fb, mg0 y = some (.ref fb) → LamX.OwnTab (K w0.params) fb sB.heap := fun fb hb c P o1 fd1 e dd vs1 sl k1 k2 k3 k4 k5 => by
    obtain ⟨dl, m0, m1⟩ := List.any_eq_true.mp there
    have m2 : dl.name = y := beq_iff_eq.mp m1
    obtain ⟨_, _, _, _, _, r1, r2, r3, r4, r5, r6⟩ := G0.T.tab dl m0
    rw [m2, hb] at r1
    cases r1
    rw [W0 _ _ k1] at r2
    cases r2
    rw [k2] at r3
    cases r3
    rw [k3] at r4
    cases r4
    obtain ⟨⟨_, _, u1, _, u3, u4⟩, u5⟩ := r6
    rw [W0 _ _ k4] at u1
    cases u1
    cases u3
    rw [k5] at u4
    cases u4
    exact u5
  obtain ⟨fd, cs, sp, t1, t2, t3, t4, t5, t6⟩ := at_ w0 mg0 fa0 _ Y0 W0 G0.T.g hmg0 own
  exact LamX.law_callTs W0 G0.T.g G0.T.b G0.T.builtins G0.T.nolimit hg0 t1 t2 t3 G0.T.bmain hobj0 hints0 (Nat.le_trans hlen0 small) room t6 t4 (fun H u v => t5 H a0 ns0 hlen0 hbits0 u v) fun H e s' => calm w0 H sB e s'
theorem all_mk {l : PySem.W.OpenLaw} {w : World} {K : PySem.W.Frag} {h : Heap} {mg : Str → Option Value} {fa dd cc P0 fI : Addr} (X : K.In h) (G : h.Ns mainGlobals mg) (hfa : mg "law" = some (.ref fa)) (owns : ∀ fb, mg "_next_rule" = some (.ref fb) → LamX.OwnTab K fb h)
    {f0 f1 f2 f3 f4 f5 f6 f7 f8 f9 f10 f11 f12 f13 f14 f15 f16 f17 f18 f19 f20 f21 f22 f23 f24 f25 f26 f27 f28 f29 f30 f31 f32 f33 f34 f35 f36 f37 f38 f39 f40 f41 f42 f43 f44 f45 f46 f47 f48 f49 f50 f51 f52 f53 CLineError CBadClaim CProof : Addr} {od0 an0 od1 an1 od2 an2 od3 an3 od4 an4 od5 an5 od6 an6 od7 an7 od8 an8 od9 an9 od10 an10 od11 an11 od12 an12 od13 an13 od14 an14 od15 an15 od16 an16 od17 an17 od18 an18 od19 an19 od20 an20 od21 an21 od22 an22 od23 an23 od24 an24 od25 an25 od26 an26 od27 an27 od28 an28 od29 an29 od30 an30 od31 an31 od32 an32 od33 an33 od34 an34 od35 an35 od36 an36 od37 an37 od38 an38 od39 an39 od40 an40 od41 an41 od42 an42 od43 an43 od44 an44 od45 an45 od46 an46 od47 an47 od48 an48 od49 an49 od50 an50 od51 an51 od52 an52 od53 an53 odI anI ccd : Option Addr} {sl0 sl1 sl2 sl3 sl4 sl5 sl6 sl7 sl8 sl9 sl10 sl11 sl12 sl13 sl14 sl15 sl16 sl17 sl18 sl19 sl20 sl21 sl22 sl23 sl24 sl25 sl26 sl27 sl28 sl29 sl30 sl31 sl32 sl33 sl34 sl35 sl36 sl37 sl38 sl39 sl40 sl41 sl42 sl43 sl44 sl45 sl46 sl47 sl48 sl49 sl50 sl51 sl52 sl53 slI csl : Array (Option Value)} {oc0 kV0 dc0 pm0 ct0 oc1 kV1 dc1 pm1 ct1 oc2 kV2 dc2 pm2 ct2 oc3 kV3 dc3 pm3 ct3 oc4 kV4 dc4 pm4 ct4 oc5 kV5 dc5 pm5 ct5 oc6 kV6 dc6 pm6 ct6 oc7 kV7 dc7 pm7 ct7 oc8 kV8 dc8 pm8 ct8 oc9 kV9 dc9 pm9 ct9 oc10 kV10 dc10 pm10 ct10 oc11 kV11 dc11 pm11 ct11 oc12 kV12 dc12 pm12 ct12 oc13 kV13 dc13 pm13 ct13 oc14 kV14 dc14 pm14 ct14 oc15 kV15 dc15 pm15 ct15 oc16 kV16 dc16 pm16 ct16 oc17 kV17 dc17 pm17 ct17 oc18 kV18 dc18 pm18 ct18 oc19 kV19 dc19 pm19 ct19 oc20 kV20 dc20 pm20 ct20 oc21 kV21 dc21 pm21 ct21 oc22 kV22 dc22 pm22 ct22 oc23 kV23 dc23 pm23 ct23 oc24 kV24 dc24 pm24 ct24 oc25 kV25 dc25 pm25 ct25 oc26 kV26 dc26 pm26 ct26 oc27 kV27 dc27 pm27 ct27 oc28 kV28 dc28 pm28 ct28 oc29 kV29 dc29 pm29 ct29 oc30 kV30 dc30 pm30 ct30 oc31 kV31 dc31 pm31 ct31 oc32 kV32 dc32 pm32 ct32 oc33 kV33 dc33 pm33 ct33 oc34 kV34 dc34 pm34 ct34 oc35 kV35 dc35 pm35 ct35 oc36 kV36 dc36 pm36 ct36 oc37 kV37 dc37 pm37 ct37 oc38 kV38 dc38 pm38 ct38 oc39 kV39 dc39 pm39 ct39 oc40 kV40 dc40 pm40 ct40 oc41 kV41 dc41 pm41 ct41 oc42 kV42 dc42 pm42 ct42 oc43 kV43 dc43 pm43 ct43 oc44 kV44 dc44 pm44 ct44 oc45 kV45 dc45 pm45 ct45 oc46 kV46 dc46 pm46 ct46 oc47 kV47 dc47 pm47 ct47 oc48 kV48 dc48 pm48 ct48 oc49 kV49 dc49 pm49 ct49 oc50 kV50 dc50 pm50 ct50 oc51 kV51 dc51 pm51 ct51 oc52 kV52 dc52 pm52 ct52 oc53 kV53 dc53 pm53 ct53 cd0 cd1 cd2 cd3 cd4 cd5 cd6 cd7 cd8 cd9 cd10 cd11 cd12 cd13 cd14 cd15 cd16 cd17 cd18 cd19 cd20 cd22 cd23 cd24 cd25 cd26 cd27 cd28 cd29 cd30 cd31 cd32 cd33 cd34 cd35 cd36 cd37 cd38 cd39 cd40 cd41 cd42 cd43 cd44 cd45 cd46 cd47 cd48 cd49 cd50 cd51 cd52 cd53 ocI kVI dcI pmI cdI ctI cce : Value} {cvs : Array Value}
    {tc0 tc1 tc2 t1 t2 t3 t4 u1 u2 u3 u4 : Tok} {g1 g2 g3 g4 : Int} {m : Nat}
    (a0 : PySem.W.nsIn K mainGlobals "is_number" = some (some (.ref f0))) (l0 : K.lookup f0 = some ⟨oc0, od0, .func (PySem.W.fnOf "is_number" "is_number" (defArgs sIsNum) (defBody sIsNum) (defScope sIsNum) .none kV0 dc0 pm0 an0 cd0 ct0), sl0⟩) (c0 : PySem.W.codeIn K cd0 "is_number" = true) (k0 : PySem.W.keepIn K (.ref f0) = true)
    (a1 : PySem.W.nsIn K mainGlobals "is_formula" = some (some (.ref f1))) (l1 : K.lookup f1 = some ⟨oc1, od1, .func (PySem.W.fnOf "is_formula" "is_formula" (defArgs sIsFormula) (defBody sIsFormula) (defScope sIsFormula) .none kV1 dc1 pm1 an1 cd1 ct1), sl1⟩) (c1 : PySem.W.codeIn K cd1 "is_formula" = true) (k1 : PySem.W.keepIn K (.ref f1) = true)
    (a2 : PySem.W.nsIn K mainGlobals "_is_formula_of" = some (some (.ref f2))) (l2 : K.lookup f2 = some ⟨oc2, od2, .func (PySem.W.fnOf "_is_formula_of" "_is_formula_of" (defArgs sIsF) (defBody sIsF) (defScope sIsF) .none kV2 dc2 pm2 an2 cd2 ct2), sl2⟩) (c2 : PySem.W.codeIn K cd2 "_is_formula_of" = true) (k2 : PySem.W.keepIn K (.ref f2) = true)
    (a3 : PySem.W.nsIn K mainGlobals "_is_sign" = some (some (.ref f3))) (l3 : K.lookup f3 = some ⟨oc3, od3, .func (PySem.W.fnOf "_is_sign" "_is_sign" (defArgs sIsSign) (defBody sIsSign) (defScope sIsSign) .none kV3 dc3 pm3 an3 cd3 ct3), sl3⟩) (c3 : PySem.W.codeIn K cd3 "_is_sign" = true) (k3 : PySem.W.keepIn K (.ref f3) = true)
    (a4 : PySem.W.nsIn K mainGlobals "inner_formulas" = some (some (.ref f4))) (l4 : K.lookup f4 = some ⟨oc4, od4, .func (PySem.W.fnOf "inner_formulas" "inner_formulas" (defArgs sInner) (defBody sInner) (defScope sInner) .none kV4 dc4 pm4 an4 cd4 ct4), sl4⟩) (c4 : PySem.W.codeIn K cd4 "inner_formulas" = true) (k4 : PySem.W.keepIn K (.ref f4) = true)
    (a5 : PySem.W.nsIn K mainGlobals "words" = some (some (.ref f5))) (l5 : K.lookup f5 = some ⟨oc5, od5, .func (PySem.W.fnOf "words" "words" (defArgs sWords) (defBody sWords) (defScope sWords) .none kV5 dc5 pm5 an5 cd5 ct5), sl5⟩) (c5 : PySem.W.codeIn K cd5 "words" = true) (k5 : PySem.W.keepIn K (.ref f5) = true)
    (a6 : PySem.W.nsIn K mainGlobals "spelled" = some (some (.ref f6))) (l6 : K.lookup f6 = some ⟨oc6, od6, .func (PySem.W.fnOf "spelled" "spelled" (defArgs sSpelled) (defBody sSpelled) (defScope sSpelled) .none kV6 dc6 pm6 an6 cd6 ct6), sl6⟩) (c6 : PySem.W.codeIn K cd6 "spelled" = true) (k6 : PySem.W.keepIn K (.ref f6) = true)
    (a7 : PySem.W.nsIn K mainGlobals "is_claim" = some (some (.ref f7))) (l7 : K.lookup f7 = some ⟨oc7, od7, .func (PySem.W.fnOf "is_claim" "is_claim" (defArgs sIsClaim) (defBody sIsClaim) (defScope sIsClaim) .none kV7 dc7 pm7 an7 cd7 ct7), sl7⟩) (c7 : PySem.W.codeIn K cd7 "is_claim" = true) (k7 : PySem.W.keepIn K (.ref f7) = true)
    (a8 : PySem.W.nsIn K mainGlobals "refuse_no_claim" = some (some (.ref f8))) (l8 : K.lookup f8 = some ⟨oc8, od8, .func (PySem.W.fnOf "refuse_no_claim" "refuse_no_claim" (defArgs sNoClaim) (defBody sNoClaim) (defScope sNoClaim) .none kV8 dc8 pm8 an8 cd8 ct8), sl8⟩) (c8 : PySem.W.codeIn K cd8 "refuse_no_claim" = true) (k8 : PySem.W.keepIn K (.ref f8) = true)
    (a9 : PySem.W.nsIn K mainGlobals "claim_spelled" = some (some (.ref f9))) (l9 : K.lookup f9 = some ⟨oc9, od9, .func (PySem.W.fnOf "claim_spelled" "claim_spelled" (defArgs sClaimSp) (defBody sClaimSp) (defScope sClaimSp) .none kV9 dc9 pm9 an9 cd9 ct9), sl9⟩) (c9 : PySem.W.codeIn K cd9 "claim_spelled" = true) (k9 : PySem.W.keepIn K (.ref f9) = true)
    (a10 : PySem.W.nsIn K mainGlobals "_side_spelled" = some (some (.ref f10))) (l10 : K.lookup f10 = some ⟨oc10, od10, .func (PySem.W.fnOf "_side_spelled" "_side_spelled" (defArgs sSideSp) (defBody sSideSp) (defScope sSideSp) .none kV10 dc10 pm10 an10 cd10 ct10), sl10⟩) (c10 : PySem.W.codeIn K cd10 "_side_spelled" = true) (k10 : PySem.W.keepIn K (.ref f10) = true)
    (a11 : PySem.W.nsIn K mainGlobals "stands_in" = some (some (.ref f11))) (l11 : K.lookup f11 = some ⟨oc11, od11, .func (PySem.W.fnOf "stands_in" "stands_in" (defArgs sStandsIn) (defBody sStandsIn) (defScope sStandsIn) .none kV11 dc11 pm11 an11 cd11 ct11), sl11⟩) (c11 : PySem.W.codeIn K cd11 "stands_in" = true) (k11 : PySem.W.keepIn K (.ref f11) = true)
    (a12 : PySem.W.nsIn K mainGlobals "_all_stand_in" = some (some (.ref f12))) (l12 : K.lookup f12 = some ⟨oc12, od12, .func (PySem.W.fnOf "_all_stand_in" "_all_stand_in" (defArgs sAllIn) (defBody sAllIn) (defScope sAllIn) .none kV12 dc12 pm12 an12 cd12 ct12), sl12⟩) (c12 : PySem.W.codeIn K cd12 "_all_stand_in" = true) (k12 : PySem.W.keepIn K (.ref f12) = true)
    (a13 : PySem.W.nsIn K mainGlobals "told_once" = some (some (.ref f13))) (l13 : K.lookup f13 = some ⟨oc13, od13, .func (PySem.W.fnOf "told_once" "told_once" (defArgs sToldOnce) (defBody sToldOnce) (defScope sToldOnce) .none kV13 dc13 pm13 an13 cd13 ct13), sl13⟩) (c13 : PySem.W.codeIn K cd13 "told_once" = true) (k13 : PySem.W.keepIn K (.ref f13) = true)
    (a14 : PySem.W.nsIn K mainGlobals "each_once" = some (some (.ref f14))) (l14 : K.lookup f14 = some ⟨oc14, od14, .func (PySem.W.fnOf "each_once" "each_once" (defArgs sEachOnce) (defBody sEachOnce) (defScope sEachOnce) .none kV14 dc14 pm14 an14 cd14 ct14), sl14⟩) (c14 : PySem.W.codeIn K cd14 "each_once" = true) (k14 : PySem.W.keepIn K (.ref f14) = true)
    (a15 : PySem.W.nsIn K mainGlobals "led_to" = some (some (.ref f15))) (l15 : K.lookup f15 = some ⟨oc15, od15, .func (PySem.W.fnOf "led_to" "led_to" (defArgs sLedTo) (defBody sLedTo) (defScope sLedTo) .none kV15 dc15 pm15 an15 cd15 ct15), sl15⟩) (c15 : PySem.W.codeIn K cd15 "led_to" = true) (k15 : PySem.W.keepIn K (.ref f15) = true)
    (a16 : PySem.W.nsIn K mainGlobals "put_in" = some (some (.ref f16))) (l16 : K.lookup f16 = some ⟨oc16, od16, .func (PySem.W.fnOf "put_in" "put_in" (defArgs sPutIn) (defBody sPutIn) (defScope sPutIn) .none kV16 dc16 pm16 an16 cd16 ct16), sl16⟩) (c16 : PySem.W.codeIn K cd16 "put_in" = true) (k16 : PySem.W.keepIn K (.ref f16) = true)
    (a17 : PySem.W.nsIn K mainGlobals "_put_in_by_left" = some (some (.ref f17))) (l17 : K.lookup f17 = some ⟨oc17, od17, .func (PySem.W.fnOf "_put_in_by_left" "_put_in_by_left" (defArgs sPutL) (defBody sPutL) (defScope sPutL) .none kV17 dc17 pm17 an17 cd17 ct17), sl17⟩) (c17 : PySem.W.codeIn K cd17 "_put_in_by_left" = true) (k17 : PySem.W.keepIn K (.ref f17) = true)
    (a18 : PySem.W.nsIn K mainGlobals "_put_in_by_right" = some (some (.ref f18))) (l18 : K.lookup f18 = some ⟨oc18, od18, .func (PySem.W.fnOf "_put_in_by_right" "_put_in_by_right" (defArgs sPutR) (defBody sPutR) (defScope sPutR) .none kV18 dc18 pm18 an18 cd18 ct18), sl18⟩) (c18 : PySem.W.codeIn K cd18 "_put_in_by_right" = true) (k18 : PySem.W.keepIn K (.ref f18) = true)
    (a19 : PySem.W.nsIn K mainGlobals "decided" = some (some (.ref f19))) (l19 : K.lookup f19 = some ⟨oc19, od19, .func (PySem.W.fnOf "decided" "decided" (defArgs sDecided) (defBody sDecided) (defScope sDecided) .none kV19 dc19 pm19 an19 cd19 ct19), sl19⟩) (c19 : PySem.W.codeIn K cd19 "decided" = true) (k19 : PySem.W.keepIn K (.ref f19) = true)
    (a20 : PySem.W.nsIn K mainGlobals "_searched" = some (some (.ref f20))) (l20 : K.lookup f20 = some ⟨oc20, od20, .func (PySem.W.fnOf "_searched" "_searched" (defArgs sSearched) (defBody sSearched) (defScope sSearched) .none kV20 dc20 pm20 an20 cd20 ct20), sl20⟩) (c20 : PySem.W.codeIn K cd20 "_searched" = true) (k20 : PySem.W.keepIn K (.ref f20) = true)
    (a21 : PySem.W.nsIn K mainGlobals "_next_rule" = some (some (.ref f21))) (l21 : K.lookup f21 = some ⟨oc21, od21, .func (PySem.W.fnOf "_next_rule" "_next_rule" (defArgs sNextRule) (defBody sNextRule) (defScope sNextRule) .none kV21 dc21 pm21 an21 (.ref cc) ct21), sl21⟩) (c21 : PySem.W.codeIn K (.ref cc) "_next_rule" = true) (k21 : PySem.W.keepIn K (.ref f21) = true)
    (a22 : PySem.W.nsIn K mainGlobals "_many_open" = some (some (.ref f22))) (l22 : K.lookup f22 = some ⟨oc22, od22, .func (PySem.W.fnOf "_many_open" "_many_open" (defArgs sManyOpen) (defBody sManyOpen) (defScope sManyOpen) .none kV22 dc22 pm22 an22 cd22 ct22), sl22⟩) (c22 : PySem.W.codeIn K cd22 "_many_open" = true) (k22 : PySem.W.keepIn K (.ref f22) = true)
    (a23 : PySem.W.nsIn K mainGlobals "_rested_on" = some (some (.ref f23))) (l23 : K.lookup f23 = some ⟨oc23, od23, .func (PySem.W.fnOf "_rested_on" "_rested_on" (defArgs sRestedOn) (defBody sRestedOn) (defScope sRestedOn) .none kV23 dc23 pm23 an23 cd23 ct23), sl23⟩) (c23 : PySem.W.codeIn K cd23 "_rested_on" = true) (k23 : PySem.W.keepIn K (.ref f23) = true)
    (a24 : PySem.W.nsIn K mainGlobals "_write_lines" = some (some (.ref f24))) (l24 : K.lookup f24 = some ⟨oc24, od24, .func (PySem.W.fnOf "_write_lines" "_write_lines" (defArgs sWriteLines) (defBody sWriteLines) (defScope sWriteLines) .none kV24 dc24 pm24 an24 cd24 ct24), sl24⟩) (c24 : PySem.W.codeIn K cd24 "_write_lines" = true) (k24 : PySem.W.keepIn K (.ref f24) = true)
    (a25 : PySem.W.nsIn K mainGlobals "_law_cell_at" = some (some (.ref f25))) (l25 : K.lookup f25 = some ⟨oc25, od25, .func (PySem.W.fnOf "_law_cell_at" "_law_cell_at" (defArgs sCell) (defBody sCell) (defScope sCell) .none kV25 dc25 pm25 an25 cd25 ct25), sl25⟩) (c25 : PySem.W.codeIn K cd25 "_law_cell_at" = true) (k25 : PySem.W.keepIn K (.ref f25) = true)
    (a26 : PySem.W.nsIn K mainGlobals "_law_first" = some (some (.ref f26))) (l26 : K.lookup f26 = some ⟨oc26, od26, .func (PySem.W.fnOf "_law_first" "_law_first" (defArgs sFirst) (defBody sFirst) (defScope sFirst) .none kV26 dc26 pm26 an26 cd26 ct26), sl26⟩) (c26 : PySem.W.codeIn K cd26 "_law_first" = true) (k26 : PySem.W.keepIn K (.ref f26) = true)
    (a27 : PySem.W.nsIn K mainGlobals "_law_count" = some (some (.ref f27))) (l27 : K.lookup f27 = some ⟨oc27, od27, .func (PySem.W.fnOf "_law_count" "_law_count" (defArgs sCount) (defBody sCount) (defScope sCount) .none kV27 dc27 pm27 an27 cd27 ct27), sl27⟩) (c27 : PySem.W.codeIn K cd27 "_law_count" = true) (k27 : PySem.W.keepIn K (.ref f27) = true)
    (a28 : PySem.W.nsIn K mainGlobals "_law_sign" = some (some (.ref f28))) (l28 : K.lookup f28 = some ⟨oc28, od28, .func (PySem.W.fnOf "_law_sign" "_law_sign" (defArgs sSign) (defBody sSign) (defScope sSign) .none kV28 dc28 pm28 an28 cd28 ct28), sl28⟩) (c28 : PySem.W.codeIn K cd28 "_law_sign" = true) (k28 : PySem.W.keepIn K (.ref f28) = true)
    (a29 : PySem.W.nsIn K mainGlobals "_law_formula" = some (some (.ref f29))) (l29 : K.lookup f29 = some ⟨oc29, od29, .func (PySem.W.fnOf "_law_formula" "_law_formula" (defArgs sFormula) (defBody sFormula) (defScope sFormula) .none kV29 dc29 pm29 an29 cd29 ct29), sl29⟩) (c29 : PySem.W.codeIn K cd29 "_law_formula" = true) (k29 : PySem.W.keepIn K (.ref f29) = true)
    (a30 : PySem.W.nsIn K mainGlobals "_law_words" = some (some (.ref f30))) (l30 : K.lookup f30 = some ⟨oc30, od30, .func (PySem.W.fnOf "_law_words" "_law_words" (defArgs sLWords) (defBody sLWords) (defScope sLWords) .none kV30 dc30 pm30 an30 cd30 ct30), sl30⟩) (c30 : PySem.W.codeIn K cd30 "_law_words" = true) (k30 : PySem.W.keepIn K (.ref f30) = true)
    (a31 : PySem.W.nsIn K mainGlobals "_law_deep" = some (some (.ref f31))) (l31 : K.lookup f31 = some ⟨oc31, od31, .func (PySem.W.fnOf "_law_deep" "_law_deep" (defArgs sLDeep) (defBody sLDeep) (defScope sLDeep) .none kV31 dc31 pm31 an31 cd31 ct31), sl31⟩) (c31 : PySem.W.codeIn K cd31 "_law_deep" = true) (k31 : PySem.W.keepIn K (.ref f31) = true)
    (a32 : PySem.W.nsIn K mainGlobals "_law_with" = some (some (.ref f32))) (l32 : K.lookup f32 = some ⟨oc32, od32, .func (PySem.W.fnOf "_law_with" "_law_with" (defArgs sWith) (defBody sWith) (defScope sWith) .none kV32 dc32 pm32 an32 cd32 ct32), sl32⟩) (c32 : PySem.W.codeIn K cd32 "_law_with" = true) (k32 : PySem.W.keepIn K (.ref f32) = true)
    (a33 : PySem.W.nsIn K mainGlobals "_law_without" = some (some (.ref f33))) (l33 : K.lookup f33 = some ⟨oc33, od33, .func (PySem.W.fnOf "_law_without" "_law_without" (defArgs sWithout) (defBody sWithout) (defScope sWithout) .none kV33 dc33 pm33 an33 cd33 ct33), sl33⟩) (c33 : PySem.W.codeIn K cd33 "_law_without" = true) (k33 : PySem.W.keepIn K (.ref f33) = true)
    (a34 : PySem.W.nsIn K mainGlobals "_law_within" = some (some (.ref f34))) (l34 : K.lookup f34 = some ⟨oc34, od34, .func (PySem.W.fnOf "_law_within" "_law_within" (defArgs sWithin) (defBody sWithin) (defScope sWithin) .none kV34 dc34 pm34 an34 cd34 ct34), sl34⟩) (c34 : PySem.W.codeIn K cd34 "_law_within" = true) (k34 : PySem.W.keepIn K (.ref f34) = true)
    (a35 : PySem.W.nsIn K mainGlobals "_law_split" = some (some (.ref f35))) (l35 : K.lookup f35 = some ⟨oc35, od35, .func (PySem.W.fnOf "_law_split" "_law_split" (defArgs sSplit) (defBody sSplit) (defScope sSplit) .none kV35 dc35 pm35 an35 cd35 ct35), sl35⟩) (c35 : PySem.W.codeIn K cd35 "_law_split" = true) (k35 : PySem.W.keepIn K (.ref f35) = true)
    (a36 : PySem.W.nsIn K mainGlobals "_law_wanted" = some (some (.ref f36))) (l36 : K.lookup f36 = some ⟨oc36, od36, .func (PySem.W.fnOf "_law_wanted" "_law_wanted" (defArgs sLWanted) (defBody sLWanted) (defScope sLWanted) .none kV36 dc36 pm36 an36 cd36 ct36), sl36⟩) (c36 : PySem.W.codeIn K cd36 "_law_wanted" = true) (k36 : PySem.W.keepIn K (.ref f36) = true)
    (a37 : PySem.W.nsIn K mainGlobals "_law_rest" = some (some (.ref f37))) (l37 : K.lookup f37 = some ⟨oc37, od37, .func (PySem.W.fnOf "_law_rest" "_law_rest" (defArgs sRest) (defBody sRest) (defScope sRest) .none kV37 dc37 pm37 an37 cd37 ct37), sl37⟩) (c37 : PySem.W.codeIn K cd37 "_law_rest" = true) (k37 : PySem.W.keepIn K (.ref f37) = true)
    (a38 : PySem.W.nsIn K mainGlobals "_law_one" = some (some (.ref f38))) (l38 : K.lookup f38 = some ⟨oc38, od38, .func (PySem.W.fnOf "_law_one" "_law_one" (defArgs sOne) (defBody sOne) (defScope sOne) .none kV38 dc38 pm38 an38 cd38 ct38), sl38⟩) (c38 : PySem.W.codeIn K cd38 "_law_one" = true) (k38 : PySem.W.keepIn K (.ref f38) = true)
    (a39 : PySem.W.nsIn K mainGlobals "_law_two" = some (some (.ref f39))) (l39 : K.lookup f39 = some ⟨oc39, od39, .func (PySem.W.fnOf "_law_two" "_law_two" (defArgs sTwo) (defBody sTwo) (defScope sTwo) .none kV39 dc39 pm39 an39 cd39 ct39), sl39⟩) (c39 : PySem.W.codeIn K cd39 "_law_two" = true) (k39 : PySem.W.keepIn K (.ref f39) = true)
    (a40 : PySem.W.nsIn K mainGlobals "_law_grown" = some (some (.ref f40))) (l40 : K.lookup f40 = some ⟨oc40, od40, .func (PySem.W.fnOf "_law_grown" "_law_grown" (defArgs sGrown) (defBody sGrown) (defScope sGrown) .none kV40 dc40 pm40 an40 cd40 ct40), sl40⟩) (c40 : PySem.W.codeIn K cd40 "_law_grown" = true) (k40 : PySem.W.keepIn K (.ref f40) = true)
    (a41 : PySem.W.nsIn K mainGlobals "_law_chain" = some (some (.ref f41))) (l41 : K.lookup f41 = some ⟨oc41, od41, .func (PySem.W.fnOf "_law_chain" "_law_chain" (defArgs sChain) (defBody sChain) (defScope sChain) .none kV41 dc41 pm41 an41 cd41 ct41), sl41⟩) (c41 : PySem.W.codeIn K cd41 "_law_chain" = true) (k41 : PySem.W.keepIn K (.ref f41) = true)
    (a42 : PySem.W.nsIn K mainGlobals "_law_whole" = some (some (.ref f42))) (l42 : K.lookup f42 = some ⟨oc42, od42, .func (PySem.W.fnOf "_law_whole" "_law_whole" (defArgs sWhole) (defBody sWhole) (defScope sWhole) .none kV42 dc42 pm42 an42 cd42 ct42), sl42⟩) (c42 : PySem.W.codeIn K cd42 "_law_whole" = true) (k42 : PySem.W.keepIn K (.ref f42) = true)
    (a43 : PySem.W.nsIn K mainGlobals "_law_formula_is" = some (some (.ref f43))) (l43 : K.lookup f43 = some ⟨oc43, od43, .func (PySem.W.fnOf "_law_formula_is" "_law_formula_is" (defArgs sLFormulaIs) (defBody sLFormulaIs) (defScope sLFormulaIs) .none kV43 dc43 pm43 an43 cd43 ct43), sl43⟩) (c43 : PySem.W.codeIn K cd43 "_law_formula_is" = true) (k43 : PySem.W.keepIn K (.ref f43) = true)
    (a44 : PySem.W.nsIn K mainGlobals "_law_row_is" = some (some (.ref f44))) (l44 : K.lookup f44 = some ⟨oc44, od44, .func (PySem.W.fnOf "_law_row_is" "_law_row_is" (defArgs sLRowIs) (defBody sLRowIs) (defScope sLRowIs) .none kV44 dc44 pm44 an44 cd44 ct44), sl44⟩) (c44 : PySem.W.codeIn K cd44 "_law_row_is" = true) (k44 : PySem.W.keepIn K (.ref f44) = true)
    (a45 : PySem.W.nsIn K mainGlobals "_law_claim_is" = some (some (.ref f45))) (l45 : K.lookup f45 = some ⟨oc45, od45, .func (PySem.W.fnOf "_law_claim_is" "_law_claim_is" (defArgs sLClaimIs) (defBody sLClaimIs) (defScope sLClaimIs) .none kV45 dc45 pm45 an45 cd45 ct45), sl45⟩) (c45 : PySem.W.codeIn K cd45 "_law_claim_is" = true) (k45 : PySem.W.keepIn K (.ref f45) = true)
    (a46 : PySem.W.nsIn K mainGlobals "_law_line_is" = some (some (.ref f46))) (l46 : K.lookup f46 = some ⟨oc46, od46, .func (PySem.W.fnOf "_law_line_is" "_law_line_is" (defArgs sLLineIs) (defBody sLLineIs) (defScope sLLineIs) .none kV46 dc46 pm46 an46 cd46 ct46), sl46⟩) (c46 : PySem.W.codeIn K cd46 "_law_line_is" = true) (k46 : PySem.W.keepIn K (.ref f46) = true)
    (a47 : PySem.W.nsIn K mainGlobals "_law_follows" = some (some (.ref f47))) (l47 : K.lookup f47 = some ⟨oc47, od47, .func (PySem.W.fnOf "_law_follows" "_law_follows" (defArgs sLFollows) (defBody sLFollows) (defScope sLFollows) .none kV47 dc47 pm47 an47 cd47 ct47), sl47⟩) (c47 : PySem.W.codeIn K cd47 "_law_follows" = true) (k47 : PySem.W.keepIn K (.ref f47) = true)
    (a48 : PySem.W.nsIn K mainGlobals "_law_walks" = some (some (.ref f48))) (l48 : K.lookup f48 = some ⟨oc48, od48, .func (PySem.W.fnOf "_law_walks" "_law_walks" (defArgs sWalks) (defBody sWalks) (defScope sWalks) .none kV48 dc48 pm48 an48 cd48 ct48), sl48⟩) (c48 : PySem.W.codeIn K cd48 "_law_walks" = true) (k48 : PySem.W.keepIn K (.ref f48) = true)
    (a49 : PySem.W.nsIn K mainGlobals "_law_true" = some (some (.ref f49))) (l49 : K.lookup f49 = some ⟨oc49, od49, .func (PySem.W.fnOf "_law_true" "_law_true" (defArgs sLTrue) (defBody sLTrue) (defScope sLTrue) .none kV49 dc49 pm49 an49 cd49 ct49), sl49⟩) (c49 : PySem.W.codeIn K cd49 "_law_true" = true) (k49 : PySem.W.keepIn K (.ref f49) = true)
    (a50 : PySem.W.nsIn K mainGlobals "_law_holds" = some (some (.ref f50))) (l50 : K.lookup f50 = some ⟨oc50, od50, .func (PySem.W.fnOf "_law_holds" "_law_holds" (defArgs sLHolds) (defBody sLHolds) (defScope sLHolds) .none kV50 dc50 pm50 an50 cd50 ct50), sl50⟩) (c50 : PySem.W.codeIn K cd50 "_law_holds" = true) (k50 : PySem.W.keepIn K (.ref f50) = true)
    (a51 : PySem.W.nsIn K mainGlobals "_law_good" = some (some (.ref f51))) (l51 : K.lookup f51 = some ⟨oc51, od51, .func (PySem.W.fnOf "_law_good" "_law_good" (defArgs sGood) (defBody sGood) (defScope sGood) .none kV51 dc51 pm51 an51 cd51 ct51), sl51⟩) (c51 : PySem.W.codeIn K cd51 "_law_good" = true) (k51 : PySem.W.keepIn K (.ref f51) = true)
    (a52 : PySem.W.nsIn K mainGlobals "_law_claim" = some (some (.ref f52))) (l52 : K.lookup f52 = some ⟨oc52, od52, .func (PySem.W.fnOf "_law_claim" "_law_claim" (defArgs sLClaim) (defBody sLClaim) (defScope sLClaim) .none kV52 dc52 pm52 an52 cd52 ct52), sl52⟩) (c52 : PySem.W.codeIn K cd52 "_law_claim" = true) (k52 : PySem.W.keepIn K (.ref f52) = true)
    (a53 : PySem.W.nsIn K mainGlobals "law" = some (some (.ref f53))) (l53 : K.lookup f53 = some ⟨oc53, od53, .func (PySem.W.fnOf "law" "law" (defArgs sLaw) (defBody sLaw) (defScope sLaw) .none kV53 dc53 pm53 an53 cd53 ct53), sl53⟩) (c53 : PySem.W.codeIn K cd53 "law" = true) (k53 : PySem.W.keepIn K (.ref f53) = true)
    (n0 : PySem.W.nsIn K mainGlobals "MOST_SIGN" = some (some (.int 99 tc0)))
    (n1 : PySem.W.nsIn K mainGlobals "MOST_DEEP" = some (some (.int 12 tc1)))
    (n2 : PySem.W.nsIn K mainGlobals "MOST_WORDS" = some (some (.int 60 tc2)))
    (md : PySem.W.nsIn K mainGlobals "MANY_INNER" = some (some (.ref dd))) (ld : K.lookup dd = some ⟨.type "dict", none, .dict #[⟨g1, .str "not" t1, .int 1 u1⟩, ⟨g2, .str "and" t2, .int 2 u2⟩, ⟨g3, .str "or" t3, .int 2 u3⟩, ⟨g4, .str "then" t4, .int 2 u4⟩] m, #[]⟩)
    (e1 : g1 = PyData.keyHash w.params "not") (e2 : g2 = PyData.keyHash w.params "and") (e3 : g3 = PyData.keyHash w.params "or") (e4 : g4 = PyData.keyHash w.params "then") (low : (dd == sysModules) = false)
    (lc : K.lookup cc = some ⟨cce, ccd, .fields cvs, csl⟩) (v11 : cvs[11]? = some (.ref P0)) (nP : K.lookup P0 = none) (hdr : PySem.W.codeHdIn K cc P0 = true)
    (mCLineError : PySem.W.nsIn K mainGlobals "LineError" = some (some (.ref CLineError)))
    (mCBadClaim : PySem.W.nsIn K mainGlobals "BadClaim" = some (some (.ref CBadClaim)))
    (mCProof : PySem.W.nsIn K mainGlobals "Proof" = some (some (.ref CProof)))
    (aI : PySem.W.findIn K (.ref CProof) "__init__" = some (some (.ref fI))) (iI : PySem.W.isFn K (.ref fI) = true) (lI : K.lookup fI = some ⟨ocI, odI, .func (PySem.W.fnOf "__init__" "Proof.__init__" (defArgs sPInit) (defBody sPInit) (defScope sPInit) .none kVI dcI pmI anI cdI ctI), slI⟩) (cI : PySem.W.codeIn K cdI "Proof.__init__" = true) (kI : PySem.W.keepIn K (.ref fI) = true)
    (pg : PySem.W.plainGet K CProof Str.empty = true) (hd : PySem.W.hasDictIn K CProof = true) (po : PySem.W.plainOver K CProof = true) (sa : PySem.W.findIn K (.ref CProof) "__setattr__" = some (some (.builtin "object.__setattr__"))) (mk : PySem.W.makesIn K CProof = true) (kc : PySem.W.keepIn K (.ref CProof) = true)
    (nr : PySem.W.findIn K (.ref CProof) "rule" = some none) (ni : PySem.W.findIn K (.ref CProof) "inner" = some none) (nc : PySem.W.findIn K (.ref CProof) "claim" = some none)
    (EXCBadClaim : ErrK K CBadClaim)
    (hx : PySem.W.exmOne K (.ref CBadClaim) (.ref CBadClaim) = some true)
    (z0 : PySem.W.nsIn K mainGlobals "isinstance" = some none) (z1 : PySem.W.nsIn K mainGlobals "int" = some none) (z2 : PySem.W.nsIn K mainGlobals "bool" = some none) (z3 : PySem.W.nsIn K mainGlobals "tuple" = some none) (z4 : PySem.W.nsIn K mainGlobals "str" = some none) (z5 : PySem.W.nsIn K mainGlobals "list" = some none) (z6 : PySem.W.nsIn K mainGlobals "len" = some none) (z7 : PySem.W.nsIn K mainGlobals "all" = some none) (z8 : PySem.W.nsIn K mainGlobals "range" = some none) (z9 : PySem.W.nsIn K mainGlobals "sum" = some none) (z10 : PySem.W.nsIn K mainGlobals "any" = some none) (z11 : PySem.W.nsIn K mainGlobals "max" = some none) (z12 : PySem.W.nsIn K mainGlobals "min" = some none) (z13 : PySem.W.nsIn K mainGlobals "zip" = some none) (z14 : PySem.W.nsIn K mainGlobals "enumerate" = some none) (z15 : PySem.W.nsIn K mainGlobals "sorted" = some none) (z16 : PySem.W.nsIn K mainGlobals "set" = some none) :
    LamX.LawAtS l w K CX0 80 63 "_law_script" mg fa h := by
  have e := hfa.symm.trans (PySem.W.mg_of X G a53)
  cases e
  have D_is_number : Df K mg "is_number" sIsNum ["thing"] _ _ := ⟨fun_mk (st := sIsNum) l0 c0 k0, (fun_mk (st := sIsNum) l0 c0 k0).binds (ps := ["thing"]) (fun _ _ _ _ _ _ us hl => match us, hl with | [_], _ => rfl), PySem.W.mg_of X G a0⟩
  have D_is_formula : Df K mg "is_formula" sIsFormula ["thing"] _ _ := ⟨fun_mk (st := sIsFormula) l1 c1 k1, (fun_mk (st := sIsFormula) l1 c1 k1).binds (ps := ["thing"]) (fun _ _ _ _ _ _ us hl => match us, hl with | [_], _ => rfl), PySem.W.mg_of X G a1⟩
  have D__is_formula_of : Df K mg "_is_formula_of" sIsF ["thing", "deep"] _ _ := ⟨fun_mk (st := sIsF) l2 c2 k2, (fun_mk (st := sIsF) l2 c2 k2).binds (ps := ["thing", "deep"]) (fun _ _ _ _ _ _ us hl => match us, hl with | [_, _], _ => rfl), PySem.W.mg_of X G a2⟩
  have D__is_sign : Df K mg "_is_sign" sIsSign ["thing"] _ _ := ⟨fun_mk (st := sIsSign) l3 c3 k3, (fun_mk (st := sIsSign) l3 c3 k3).binds (ps := ["thing"]) (fun _ _ _ _ _ _ us hl => match us, hl with | [_], _ => rfl), PySem.W.mg_of X G a3⟩
  have D_inner_formulas : Df K mg "inner_formulas" sInner ["f"] _ _ := ⟨fun_mk (st := sInner) l4 c4 k4, (fun_mk (st := sInner) l4 c4 k4).binds (ps := ["f"]) (fun _ _ _ _ _ _ us hl => match us, hl with | [_], _ => rfl), PySem.W.mg_of X G a4⟩
  have D_words : Df K mg "words" sWords ["f"] _ _ := ⟨fun_mk (st := sWords) l5 c5 k5, (fun_mk (st := sWords) l5 c5 k5).binds (ps := ["f"]) (fun _ _ _ _ _ _ us hl => match us, hl with | [_], _ => rfl), PySem.W.mg_of X G a5⟩
  have D_spelled : Df K mg "spelled" sSpelled ["f"] _ _ := ⟨fun_mk (st := sSpelled) l6 c6 k6, (fun_mk (st := sSpelled) l6 c6 k6).binds (ps := ["f"]) (fun _ _ _ _ _ _ us hl => match us, hl with | [_], _ => rfl), PySem.W.mg_of X G a6⟩
  have D_is_claim : Df K mg "is_claim" sIsClaim ["thing"] _ _ := ⟨fun_mk (st := sIsClaim) l7 c7 k7, (fun_mk (st := sIsClaim) l7 c7 k7).binds (ps := ["thing"]) (fun _ _ _ _ _ _ us hl => match us, hl with | [_], _ => rfl), PySem.W.mg_of X G a7⟩
  have D_refuse_no_claim : Df K mg "refuse_no_claim" sNoClaim ["thing"] _ _ := ⟨fun_mk (st := sNoClaim) l8 c8 k8, (fun_mk (st := sNoClaim) l8 c8 k8).binds (ps := ["thing"]) (fun _ _ _ _ _ _ us hl => match us, hl with | [_], _ => rfl), PySem.W.mg_of X G a8⟩
  have D_claim_spelled : Df K mg "claim_spelled" sClaimSp ["claim"] _ _ := ⟨fun_mk (st := sClaimSp) l9 c9 k9, (fun_mk (st := sClaimSp) l9 c9 k9).binds (ps := ["claim"]) (fun _ _ _ _ _ _ us hl => match us, hl with | [_], _ => rfl), PySem.W.mg_of X G a9⟩
  have D__side_spelled : Df K mg "_side_spelled" sSideSp ["side"] _ _ := ⟨fun_mk (st := sSideSp) l10 c10 k10, (fun_mk (st := sSideSp) l10 c10 k10).binds (ps := ["side"]) (fun _ _ _ _ _ _ us hl => match us, hl with | [_], _ => rfl), PySem.W.mg_of X G a10⟩
  have D_stands_in : Df K mg "stands_in" sStandsIn ["one", "other"] _ _ := ⟨fun_mk (st := sStandsIn) l11 c11 k11, (fun_mk (st := sStandsIn) l11 c11 k11).binds (ps := ["one", "other"]) (fun _ _ _ _ _ _ us hl => match us, hl with | [_, _], _ => rfl), PySem.W.mg_of X G a11⟩
  have D__all_stand_in : Df K mg "_all_stand_in" sAllIn ["some", "side"] _ _ := ⟨fun_mk (st := sAllIn) l12 c12 k12, (fun_mk (st := sAllIn) l12 c12 k12).binds (ps := ["some", "side"]) (fun _ _ _ _ _ _ us hl => match us, hl with | [_, _], _ => rfl), PySem.W.mg_of X G a12⟩
  have D_told_once : Df K mg "told_once" sToldOnce ["claim"] _ _ := ⟨fun_mk (st := sToldOnce) l13 c13 k13, (fun_mk (st := sToldOnce) l13 c13 k13).binds (ps := ["claim"]) (fun _ _ _ _ _ _ us hl => match us, hl with | [_], _ => rfl), PySem.W.mg_of X G a13⟩
  have D_each_once : Df K mg "each_once" sEachOnce ["side"] _ _ := ⟨fun_mk (st := sEachOnce) l14 c14 k14, (fun_mk (st := sEachOnce) l14 c14 k14).binds (ps := ["side"]) (fun _ _ _ _ _ _ us hl => match us, hl with | [_], _ => rfl), PySem.W.mg_of X G a14⟩
  have D_led_to : Df K mg "led_to" sLedTo ["claim", "rule"] _ _ := ⟨fun_mk (st := sLedTo) l15 c15 k15, (fun_mk (st := sLedTo) l15 c15 k15).binds (ps := ["claim", "rule"]) (fun _ _ _ _ _ _ us hl => match us, hl with | [_, _], _ => rfl), PySem.W.mg_of X G a15⟩
  have D_put_in : Df K mg "put_in" sPutIn ["rule"] _ _ := ⟨fun_mk (st := sPutIn) l16 c16 k16, (fun_mk (st := sPutIn) l16 c16 k16).binds (ps := ["rule"]) (fun _ _ _ _ _ _ us hl => match us, hl with | [_], _ => rfl), PySem.W.mg_of X G a16⟩
  have D__put_in_by_left : Df K mg "_put_in_by_left" sPutL ["f"] _ _ := ⟨fun_mk (st := sPutL) l17 c17 k17, (fun_mk (st := sPutL) l17 c17 k17).binds (ps := ["f"]) (fun _ _ _ _ _ _ us hl => match us, hl with | [_], _ => rfl), PySem.W.mg_of X G a17⟩
  have D__put_in_by_right : Df K mg "_put_in_by_right" sPutR ["f"] _ _ := ⟨fun_mk (st := sPutR) l18 c18 k18, (fun_mk (st := sPutR) l18 c18 k18).binds (ps := ["f"]) (fun _ _ _ _ _ _ us hl => match us, hl with | [_], _ => rfl), PySem.W.mg_of X G a18⟩
  have D_decided : Df K mg "decided" sDecided ["claim"] _ _ := ⟨fun_mk (st := sDecided) l19 c19 k19, (fun_mk (st := sDecided) l19 c19 k19).binds (ps := ["claim"]) (fun _ _ _ _ _ _ us hl => match us, hl with | [_], _ => rfl), PySem.W.mg_of X G a19⟩
  have D__searched : Df K mg "_searched" sSearched ["claim"] _ _ := ⟨fun_mk (st := sSearched) l20 c20 k20, (fun_mk (st := sSearched) l20 c20 k20).binds (ps := ["claim"]) (fun _ _ _ _ _ _ us hl => match us, hl with | [_], _ => rfl), PySem.W.mg_of X G a20⟩
  have D__next_rule : Df K mg "_next_rule" sNextRule ["claim"] _ _ := ⟨fun_mk (st := sNextRule) l21 c21 k21, (fun_mk (st := sNextRule) l21 c21 k21).binds (ps := ["claim"]) (fun _ _ _ _ _ _ us hl => match us, hl with | [_], _ => rfl), PySem.W.mg_of X G a21⟩
  have D__many_open : Df K mg "_many_open" sManyOpen ["claim", "rule"] _ _ := ⟨fun_mk (st := sManyOpen) l22 c22 k22, (fun_mk (st := sManyOpen) l22 c22 k22).binds (ps := ["claim", "rule"]) (fun _ _ _ _ _ _ us hl => match us, hl with | [_, _], _ => rfl), PySem.W.mg_of X G a22⟩
  have D__rested_on : Df K mg "_rested_on" sRestedOn ["claim", "rule", "inner"] _ _ := ⟨fun_mk (st := sRestedOn) l23 c23 k23, (fun_mk (st := sRestedOn) l23 c23 k23).binds (ps := ["claim", "rule", "inner"]) (fun _ _ _ _ _ _ us hl => match us, hl with | [_, _, _], _ => rfl), PySem.W.mg_of X G a23⟩
  have D__write_lines : Df K mg "_write_lines" sWriteLines ["claim", "proof", "lines", "numbers"] _ _ := ⟨fun_mk (st := sWriteLines) l24 c24 k24, (fun_mk (st := sWriteLines) l24 c24 k24).binds (ps := ["claim", "proof", "lines", "numbers"]) (fun _ _ _ _ _ _ us hl => match us, hl with | [_, _, _, _], _ => rfl), PySem.W.mg_of X G a24⟩
  have D__law_cell_at : Df K mg "_law_cell_at" sCell ["_law_script", "_law_k"] _ _ := ⟨fun_mk (st := sCell) l25 c25 k25, (fun_mk (st := sCell) l25 c25 k25).binds (ps := ["_law_script", "_law_k"]) (fun _ _ _ _ _ _ us hl => match us, hl with | [_, _], _ => rfl), PySem.W.mg_of X G a25⟩
  have D__law_first : Df K mg "_law_first" sFirst ["_law_script"] _ _ := ⟨fun_mk (st := sFirst) l26 c26 k26, (fun_mk (st := sFirst) l26 c26 k26).binds (ps := ["_law_script"]) (fun _ _ _ _ _ _ us hl => match us, hl with | [_], _ => rfl), PySem.W.mg_of X G a26⟩
  have D__law_count : Df K mg "_law_count" sCount ["_law_base"] _ _ := ⟨fun_mk (st := sCount) l27 c27 k27, (fun_mk (st := sCount) l27 c27 k27).binds (ps := ["_law_base"]) (fun _ _ _ _ _ _ us hl => match us, hl with | [_], _ => rfl), PySem.W.mg_of X G a27⟩
  have D__law_sign : Df K mg "_law_sign" sSign ["_law_k", "_law_base"] _ _ := ⟨fun_mk (st := sSign) l28 c28 k28, (fun_mk (st := sSign) l28 c28 k28).binds (ps := ["_law_k", "_law_base"]) (fun _ _ _ _ _ _ us hl => match us, hl with | [_, _], _ => rfl), PySem.W.mg_of X G a28⟩
  have D__law_formula : Df K mg "_law_formula" sFormula ["_law_cell", "_law_deep_here", "_law_base"] _ _ := ⟨fun_mk (st := sFormula) l29 c29 k29, (fun_mk (st := sFormula) l29 c29 k29).binds (ps := ["_law_cell", "_law_deep_here", "_law_base"]) (fun _ _ _ _ _ _ us hl => match us, hl with | [_, _, _], _ => rfl), PySem.W.mg_of X G a29⟩
  have D__law_words : Df K mg "_law_words" sLWords ["_law_f"] _ _ := ⟨fun_mk (st := sLWords) l30 c30 k30, (fun_mk (st := sLWords) l30 c30 k30).binds (ps := ["_law_f"]) (fun _ _ _ _ _ _ us hl => match us, hl with | [_], _ => rfl), PySem.W.mg_of X G a30⟩
  have D__law_deep : Df K mg "_law_deep" sLDeep ["_law_f"] _ _ := ⟨fun_mk (st := sLDeep) l31 c31 k31, (fun_mk (st := sLDeep) l31 c31 k31).binds (ps := ["_law_f"]) (fun _ _ _ _ _ _ us hl => match us, hl with | [_], _ => rfl), PySem.W.mg_of X G a31⟩
  have D__law_with : Df K mg "_law_with" sWith ["_law_row", "_law_more"] _ _ := ⟨fun_mk (st := sWith) l32 c32 k32, (fun_mk (st := sWith) l32 c32 k32).binds (ps := ["_law_row", "_law_more"]) (fun _ _ _ _ _ _ us hl => match us, hl with | [_, _], _ => rfl), PySem.W.mg_of X G a32⟩
  have D__law_without : Df K mg "_law_without" sWithout ["_law_row", "_law_f"] _ _ := ⟨fun_mk (st := sWithout) l33 c33 k33, (fun_mk (st := sWithout) l33 c33 k33).binds (ps := ["_law_row", "_law_f"]) (fun _ _ _ _ _ _ us hl => match us, hl with | [_, _], _ => rfl), PySem.W.mg_of X G a33⟩
  have D__law_within : Df K mg "_law_within" sWithin ["_law_one_here", "_law_other"] _ _ := ⟨fun_mk (st := sWithin) l34 c34 k34, (fun_mk (st := sWithin) l34 c34 k34).binds (ps := ["_law_one_here", "_law_other"]) (fun _ _ _ _ _ _ us hl => match us, hl with | [_, _], _ => rfl), PySem.W.mg_of X G a34⟩
  have D__law_split : Df K mg "_law_split" sSplit ["_law_f", "_law_side"] _ _ := ⟨fun_mk (st := sSplit) l35 c35 k35, (fun_mk (st := sSplit) l35 c35 k35).binds (ps := ["_law_f", "_law_side"]) (fun _ _ _ _ _ _ us hl => match us, hl with | [_, _], _ => rfl), PySem.W.mg_of X G a35⟩
  have D__law_wanted : Df K mg "_law_wanted" sLWanted ["_law_claim_here", "_law_rule"] _ _ := ⟨fun_mk (st := sLWanted) l36 c36 k36, (fun_mk (st := sLWanted) l36 c36 k36).binds (ps := ["_law_claim_here", "_law_rule"]) (fun _ _ _ _ _ _ us hl => match us, hl with | [_, _], _ => rfl), PySem.W.mg_of X G a36⟩
  have D__law_rest : Df K mg "_law_rest" sRest ["_law_lines", "_law_claim_here", "_law_rule", "_law_uses"] _ _ := ⟨fun_mk (st := sRest) l37 c37 k37, (fun_mk (st := sRest) l37 c37 k37).binds (ps := ["_law_lines", "_law_claim_here", "_law_rule", "_law_uses"]) (fun _ _ _ _ _ _ us hl => match us, hl with | [_, _, _, _], _ => rfl), PySem.W.mg_of X G a37⟩
  have D__law_one : Df K mg "_law_one" sOne ["_law_left", "_law_right", "_law_kind", "_law_more"] _ _ := ⟨fun_mk (st := sOne) l38 c38 k38, (fun_mk (st := sOne) l38 c38 k38).binds (ps := ["_law_left", "_law_right", "_law_kind", "_law_more"]) (fun _ _ _ _ _ _ us hl => match us, hl with | [_, _, _, _], _ => rfl), PySem.W.mg_of X G a38⟩
  have D__law_two : Df K mg "_law_two" sTwo ["_law_one_here", "_law_other", "_law_kind", "_law_more"] _ _ := ⟨fun_mk (st := sTwo) l39 c39 k39, (fun_mk (st := sTwo) l39 c39 k39).binds (ps := ["_law_one_here", "_law_other", "_law_kind", "_law_more"]) (fun _ _ _ _ _ _ us hl => match us, hl with | [_, _, _, _], _ => rfl), PySem.W.mg_of X G a39⟩
  have D__law_grown : Df K mg "_law_grown" sGrown ["_law_lines", "_law_cell", "_law_base"] _ _ := ⟨fun_mk (st := sGrown) l40 c40 k40, (fun_mk (st := sGrown) l40 c40 k40).binds (ps := ["_law_lines", "_law_cell", "_law_base"]) (fun _ _ _ _ _ _ us hl => match us, hl with | [_, _, _], _ => rfl), PySem.W.mg_of X G a40⟩
  have D__law_chain : Df K mg "_law_chain" sChain ["_law_cells", "_law_base"] _ _ := ⟨fun_mk (st := sChain) l41 c41 k41, (fun_mk (st := sChain) l41 c41 k41).binds (ps := ["_law_cells", "_law_base"]) (fun _ _ _ _ _ _ us hl => match us, hl with | [_, _], _ => rfl), PySem.W.mg_of X G a41⟩
  have D__law_whole : Df K mg "_law_whole" sWhole ["_law_found"] _ _ := ⟨fun_mk (st := sWhole) l42 c42 k42, (fun_mk (st := sWhole) l42 c42 k42).binds (ps := ["_law_found"]) (fun _ _ _ _ _ _ us hl => match us, hl with | [_], _ => rfl), PySem.W.mg_of X G a42⟩
  have D__law_formula_is : Df K mg "_law_formula_is" sLFormulaIs ["_law_f", "_law_deep_here"] _ _ := ⟨fun_mk (st := sLFormulaIs) l43 c43 k43, (fun_mk (st := sLFormulaIs) l43 c43 k43).binds (ps := ["_law_f", "_law_deep_here"]) (fun _ _ _ _ _ _ us hl => match us, hl with | [_, _], _ => rfl), PySem.W.mg_of X G a43⟩
  have D__law_row_is : Df K mg "_law_row_is" sLRowIs ["_law_row"] _ _ := ⟨fun_mk (st := sLRowIs) l44 c44 k44, (fun_mk (st := sLRowIs) l44 c44 k44).binds (ps := ["_law_row"]) (fun _ _ _ _ _ _ us hl => match us, hl with | [_], _ => rfl), PySem.W.mg_of X G a44⟩
  have D__law_claim_is : Df K mg "_law_claim_is" sLClaimIs ["_law_claim_here"] _ _ := ⟨fun_mk (st := sLClaimIs) l45 c45 k45, (fun_mk (st := sLClaimIs) l45 c45 k45).binds (ps := ["_law_claim_here"]) (fun _ _ _ _ _ _ us hl => match us, hl with | [_], _ => rfl), PySem.W.mg_of X G a45⟩
  have D__law_line_is : Df K mg "_law_line_is" sLLineIs ["_law_line"] _ _ := ⟨fun_mk (st := sLLineIs) l46 c46 k46, (fun_mk (st := sLLineIs) l46 c46 k46).binds (ps := ["_law_line"]) (fun _ _ _ _ _ _ us hl => match us, hl with | [_], _ => rfl), PySem.W.mg_of X G a46⟩
  have D__law_follows : Df K mg "_law_follows" sLFollows ["_law_lines", "_law_at"] _ _ := ⟨fun_mk (st := sLFollows) l47 c47 k47, (fun_mk (st := sLFollows) l47 c47 k47).binds (ps := ["_law_lines", "_law_at"]) (fun _ _ _ _ _ _ us hl => match us, hl with | [_, _], _ => rfl), PySem.W.mg_of X G a47⟩
  have D__law_walks : Df K mg "_law_walks" sWalks ["_law_lines"] _ _ := ⟨fun_mk (st := sWalks) l48 c48 k48, (fun_mk (st := sWalks) l48 c48 k48).binds (ps := ["_law_lines"]) (fun _ _ _ _ _ _ us hl => match us, hl with | [_], _ => rfl), PySem.W.mg_of X G a48⟩
  have D__law_true : Df K mg "_law_true" sLTrue ["_law_f", "_law_world"] _ _ := ⟨fun_mk (st := sLTrue) l49 c49 k49, (fun_mk (st := sLTrue) l49 c49 k49).binds (ps := ["_law_f", "_law_world"]) (fun _ _ _ _ _ _ us hl => match us, hl with | [_, _], _ => rfl), PySem.W.mg_of X G a49⟩
  have D__law_holds : Df K mg "_law_holds" sLHolds ["_law_claim_here", "_law_world"] _ _ := ⟨fun_mk (st := sLHolds) l50 c50 k50, (fun_mk (st := sLHolds) l50 c50 k50).binds (ps := ["_law_claim_here", "_law_world"]) (fun _ _ _ _ _ _ us hl => match us, hl with | [_, _], _ => rfl), PySem.W.mg_of X G a50⟩
  have D__law_good : Df K mg "_law_good" sGood ["_law_found", "_law_claim_here"] _ _ := ⟨fun_mk (st := sGood) l51 c51 k51, (fun_mk (st := sGood) l51 c51 k51).binds (ps := ["_law_found", "_law_claim_here"]) (fun _ _ _ _ _ _ us hl => match us, hl with | [_, _], _ => rfl), PySem.W.mg_of X G a51⟩
  have D__law_claim : Df K mg "_law_claim" sLClaim ["_law_script", "_law_base"] _ _ := ⟨fun_mk (st := sLClaim) l52 c52 k52, (fun_mk (st := sLClaim) l52 c52 k52).binds (ps := ["_law_script", "_law_base"]) (fun _ _ _ _ _ _ us hl => match us, hl with | [_, _], _ => rfl), PySem.W.mg_of X G a52⟩
  have D_law : Df K mg "law" sLaw ["_law_script"] _ _ := ⟨fun_mk (st := sLaw) l53 c53 k53, (fun_mk (st := sLaw) l53 c53 k53).binds (ps := ["_law_script"]) (fun _ _ _ _ _ _ us hl => match us, hl with | [_], _ => rfl), PySem.W.mg_of X G a53⟩
  have M : ManyD K w dd _ m := many_mk ld e1 e2 e3 e4 low
  have mM := PySem.W.mg_of X G md
  have b_isinstance := PySem.W.mg_none_of X G z0
  have b_int := PySem.W.mg_none_of X G z1
  have b_bool := PySem.W.mg_none_of X G z2
  have b_tuple := PySem.W.mg_none_of X G z3
  have b_str := PySem.W.mg_none_of X G z4
  have b_list := PySem.W.mg_none_of X G z5
  have b_len := PySem.W.mg_none_of X G z6
  have b_all := PySem.W.mg_none_of X G z7
  have b_range := PySem.W.mg_none_of X G z8
  have b_sum := PySem.W.mg_none_of X G z9
  have b_any := PySem.W.mg_none_of X G z10
  have b_max := PySem.W.mg_none_of X G z11
  have b_min := PySem.W.mg_none_of X G z12
  have b_zip := PySem.W.mg_none_of X G z13
  have b_enumerate := PySem.W.mg_none_of X G z14
  have b_sorted := PySem.W.mg_none_of X G z15
  have b_set := PySem.W.mg_none_of X G z16
  have B : Blt mg := ⟨b_isinstance, b_int, b_bool, b_tuple, b_str, b_list, b_len, b_all⟩
  have m_MOST_SIGN := PySem.W.mg_of X G n0
  have m_MOST_DEEP := PySem.W.mg_of X G n1
  have m_MOST_WORDS := PySem.W.mg_of X G n2
  have qLineError := PySem.W.mg_of X G mCLineError
  have qBadClaim := PySem.W.mg_of X G mCBadClaim
  have qProof := PySem.W.mg_of X G mCProof
  have PC : PCls K CProof := ⟨⟨pg, hd, po, sa⟩, nr, ni, nc⟩
  have MP : L2.Mk K CProof fI := ⟨mk, aI, iI, kc⟩
  have FI := fun_mk (st := sPInit) lI cI kI
  have bI := FI.binds (ps := ["self", "rule", "inner", "claim"]) fun _ _ _ _ _ _ us hl => match us, hl with | [_, _, _, _], _ => rfl
  refine ⟨PySem.W.fnOf "law" "law" (defArgs sLaw) (defBody sLaw) (defScope sLaw) .none kV53 dc53 pm53 an53 cd53 ct53, [(cc, P0)], spLawT K P0, fun p hp => ?_, fun p hp => ?_, fun p hp => ?_, fun s v => .of_eq rfl, fun H a ns hl _ hT hS => ⟨a, ns, rfl, hS, hl, hT _ (List.mem_singleton.mpr rfl), fun _ => rfl⟩, fun base _ _ tb => ?_⟩
  · rw [List.mem_singleton.mp hp]
    exact owns _ (PySem.W.mg_of X G a21) cc P0 _ _ _ _ _ _ l21 rfl rfl lc v11
  · rw [List.mem_singleton.mp hp]
    exact nP
  · rw [List.mem_singleton.mp hp]
    exact PySem.W.codeHd_of_K X hdr
  have TB := tb (cc, P0) (List.mem_singleton.mpr rfl)
  have GI := ok_pinit (P := l.prog) (w := w) (mg := mg) (base := base) FI PC
  have h_is_number := D_is_number.has (P := l.prog) (w := w) (K := K) (base := base) (ok_isNum D_is_number B)
  have h_is_sign := D__is_sign.has (P := l.prog) (w := w) (K := K) (base := base) (ok_isSign D__is_sign h_is_number m_MOST_SIGN)
  have h_is_formula_of := all_isF (P := l.prog) (w := w) (K := K) (base := base) D__is_formula_of B h_is_sign M mM 13
  have h_is_formula := D_is_formula.has (P := l.prog) (w := w) (K := K) (base := base) (ok_isFormula D_is_formula h_is_formula_of m_MOST_DEEP)
  have h_inner_formulas := D_inner_formulas.has (P := l.prog) (w := w) (K := K) (base := base) (ok_inner D_inner_formulas)
  have h_spelled := all_spelled (P := l.prog) (w := w) (K := K) (base := base) D_spelled B h_inner_formulas 13
  have h_words := all_words (P := l.prog) (w := w) (K := K) (base := base) D_words b_sum h_inner_formulas 13
  have h_is_claim := D_is_claim.has (P := l.prog) (w := w) (K := K) (base := base) (ok_isClaim D_is_claim B m_MOST_WORDS h_is_formula h_words)
  have h_refuse_no_claimN := D_refuse_no_claim.hasN (P := l.prog) (w := w) (K := K) (base := base) (ok_noClaim D_refuse_no_claim h_is_claim EXCBadClaim qBadClaim)
  have h_side_spelled := D__side_spelled.has (P := l.prog) (w := w) (K := K) (base := base) (ok_sideSp D__side_spelled b_sorted h_spelled)
  have h_claim_spelled := D_claim_spelled.has (P := l.prog) (w := w) (K := K) (base := base) (ok_claimSp D_claim_spelled h_side_spelled)
  have h_each_once := D_each_once.has (P := l.prog) (w := w) (K := K) (base := base) (ok_eachOnce D_each_once)
  have h_all_stand_in := D__all_stand_in.has (P := l.prog) (w := w) (K := K) (base := base) (ok_allIn D__all_stand_in B)
  have h_stands_in := D_stands_in.has (P := l.prog) (w := w) (K := K) (base := base) (ok_standsIn D_stands_in h_all_stand_in)
  have h_told_once := D_told_once.has (P := l.prog) (w := w) (K := K) (base := base) (ok_toldOnce D_told_once h_each_once)
  have h_put_in_by_left := D__put_in_by_left.has (P := l.prog) (w := w) (K := K) (base := base) (ok_putL D__put_in_by_left)
  have h_put_in_by_right := D__put_in_by_right.has (P := l.prog) (w := w) (K := K) (base := base) (ok_putR D__put_in_by_right)
  have h_put_in := D_put_in.has (P := l.prog) (w := w) (K := K) (base := base) (ok_putIn D_put_in h_put_in_by_left h_put_in_by_right)
  have h_led_to := D_led_to.has (P := l.prog) (w := w) (K := K) (base := base) (ok_ledTo D_led_to h_each_once h_put_in)
  have h_many_open := D__many_open.has (P := l.prog) (w := w) (K := K) (base := base) (ok_manyOpen D__many_open B b_any h_put_in)
  have h_next_rule := D__next_rule.has (P := l.prog) (w := w) (K := K) (base := base) (ok_nextRule l21 c21 TB b_min h_many_open h_words)
  have h_rested_on := D__rested_on.has (P := l.prog) (w := w) (K := K) (base := base) (ok_restedOn D__rested_on B b_any PC)
  have h_searched := all_searched (P := l.prog) (w := w) (K := K) (base := base) D__searched PC MP GI bI qProof h_next_rule h_led_to h_stands_in h_rested_on 61
  have h_write_lines := all_write (P := l.prog) (w := w) (K := K) (base := base) D__write_lines B b_zip PC h_claim_spelled h_led_to 61
  have h_decidedN := D_decided.hasN (P := l.prog) (w := w) (K := K) (base := base) (ok_decided (P0 := P0) D_decided h_refuse_no_claimN h_told_once h_searched h_write_lines)
  have h_decided := calm_decided h_decidedN
  have h_law_cell_at := D__law_cell_at.has (P := l.prog) (w := w) (K := K) (base := base) (ok_cell D__law_cell_at B)
  have h_law_first := D__law_first.has (P := l.prog) (w := w) (K := K) (base := base) (ok_first D__law_first h_law_cell_at)
  have h_law_count := D__law_count.has (P := l.prog) (w := w) (K := K) (base := base) (ok_count D__law_count)
  have h_law_sign := D__law_sign.has (P := l.prog) (w := w) (K := K) (base := base) (ok_sign D__law_sign h_law_count)
  have h_law_formula := all_formula (P := l.prog) (w := w) (K := K) (base := base) D__law_formula h_law_sign 3
  have h_law_with := D__law_with.has (P := l.prog) (w := w) (K := K) (base := base) (ok_with D__law_with)
  have h_law_without := D__law_without.has (P := l.prog) (w := w) (K := K) (base := base) (ok_without D__law_without)
  have h_law_within := D__law_within.has (P := l.prog) (w := w) (K := K) (base := base) (ok_within D__law_within B)
  have h_law_split := D__law_split.has (P := l.prog) (w := w) (K := K) (base := base) (ok_split D__law_split)
  have h_law_wanted := D__law_wanted.has (P := l.prog) (w := w) (K := K) (base := base) (ok_lwanted D__law_wanted B h_law_with h_law_without h_law_within h_law_split)
  have h_law_words := all_lwords (P := l.prog) (w := w) (K := K) (base := base) D__law_words B b_sum 14
  have h_law_deep := all_ldeep (P := l.prog) (w := w) (K := K) (base := base) D__law_deep B b_max 14
  have h_law_one := D__law_one.has (P := l.prog) (w := w) (K := K) (base := base) (ok_one D__law_one B h_law_with h_law_without)
  have h_law_two := D__law_two.has (P := l.prog) (w := w) (K := K) (base := base) (ok_two D__law_two B h_law_with h_law_without)
  have h_law_rest := D__law_rest.has (P := l.prog) (w := w) (K := K) (base := base) (ok_rest D__law_rest B b_max b_sum b_zip b_range h_law_wanted h_law_words h_law_deep h_law_within)
  have h_law_grown := D__law_grown.has (P := l.prog) (w := w) (K := K) (base := base) (ok_grown D__law_grown B b_min h_law_formula h_law_with h_law_one h_law_two h_law_rest)
  have h_law_chain := D__law_chain.has (P := l.prog) (w := w) (K := K) (base := base) (ok_chain D__law_chain h_law_formula h_law_grown)
  have h_law_whole := D__law_whole.has (P := l.prog) (w := w) (K := K) (base := base) (ok_whole D__law_whole B)
  have h_law_formula_is := all_lfmIs (P := l.prog) (w := w) (K := K) (base := base) D__law_formula_is B h_law_whole 13
  have h_law_follows := D__law_follows.has (P := l.prog) (w := w) (K := K) (base := base) (ok_lfol7 D__law_follows B b_zip h_law_wanted h_law_within)
  have h_law_true := all_ltrue6 (P := l.prog) (w := w) (K := K) (base := base) D__law_true 13
  have h_law_holds := D__law_holds.has (P := l.prog) (w := w) (K := K) (base := base) (ok_lholds6 D__law_holds B b_any h_law_true)
  have h_law_row_is := D__law_row_is.has (P := l.prog) (w := w) (K := K) (base := base) (ok_row7 D__law_row_is B h_law_with h_law_formula_is)
  have h_law_claim_is := D__law_claim_is.has (P := l.prog) (w := w) (K := K) (base := base) (ok_cl7 D__law_claim_is B b_sum h_law_row_is h_law_words)
  have h_law_claim := D__law_claim.has (P := l.prog) (w := w) (K := K) (base := base) (ok_claim7 D__law_claim B b_range h_law_cell_at h_law_chain h_law_formula)
  have h_law_line_is := D__law_line_is.has (P := l.prog) (w := w) (K := K) (base := base) (ok_llnIs D__law_line_is B h_law_whole h_law_formula_is h_law_claim_is)
  have h_law_walks := D__law_walks.has (P := l.prog) (w := w) (K := K) (base := base) (ok_walks D__law_walks B b_range h_law_line_is h_law_follows)
  have h_law_good := D__law_good.has (P := l.prog) (w := w) (K := K) (base := base) (ok_good7 D__law_good B b_set h_law_whole h_law_holds h_law_walks h_law_within)
  exact ok_law7 D_law B h_law_first h_law_claim h_decided h_law_good
theorem walk {l : PySem.W.OpenLaw} {q : Program} {loose : List Str} {XP : (Str → Option Value) → Heap → Prop} {YP : World → Heap → Prop} {d : DefRec} {K : Params → PySem.W.Frag} (hn : l.most = some 63) (hdf : d.params.defaults = []) (there : ((recsOf q).any fun e => e.name == ("_next_rule" : Str)) = true)
    (hY : ∀ (w : World) (h : Heap), YP w h → (K w.params).In h)
    (F : ∀ (w : World) (mg : Str → Option Value) (fa : Addr) (h : Heap), YP w h → (K w.params).In h → h.Ns mainGlobals mg → mg d.name = some (.ref fa) → (∀ fb, mg ("_next_rule" : Str) = some (.ref fb) → LamX.OwnTab (K w.params) fb h) → LamX.LawAtS l w (K w.params) CX0 80 63 "_law_script" mg fa h) :
    PySem.W.WalkO q loose XP YP l.row.toRowW d [] (fun f vs => PySem.call f vs) :=
  walk_tab (n := 63) (k := 80) (x := "_law_script") (CX := fun _ => CX0) hn (by decide) hdf ⟨rfl, by decide, by decide⟩ there hY F (fun _ _ _ _ _ z => z)
end Lm
set_option Elab.async false
set_option linter.all false
set_option maxRecDepth 100000
namespace Lm
end Lm
open PySem PySem.W PyProof.Rows
set_option maxRecDepth 100000 in
set_option maxHeartbeats 0 in
theorem PySem.Challenge.cw_lemmaless_k07_whole_decided_holds : PySem.Challenge.rw_lemmaless_k07_whole_decided.Holds := by
  w_on; o_law; k_head; (case hw => w_witness2)
  k_fill
  refine Lm.walk (l := PySem.Challenge.rw_lemmaless_k07_whole_decided) rfl rfl (by first | rfl | decide +kernel) (fun w h Y => by first | exact PySem.W.km_in_of Y | exact PySem.W.kIn_of Y) ?F
  case F =>
    intro w mg fa h Y KX G hmg owns
    refine' Lm.all_mk KX G hmg owns ?a0 ?l0 ?c0 ?k0 ?a1 ?l1 ?c1 ?k1 ?a2 ?l2 ?c2 ?k2 ?a3 ?l3 ?c3 ?k3 ?a4 ?l4 ?c4 ?k4 ?a5 ?l5 ?c5 ?k5 ?a6 ?l6 ?c6 ?k6 ?a7 ?l7 ?c7 ?k7 ?a8 ?l8 ?c8 ?k8 ?a9 ?l9 ?c9 ?k9 ?a10 ?l10 ?c10 ?k10 ?a11 ?l11 ?c11 ?k11 ?a12 ?l12 ?c12 ?k12 ?a13 ?l13 ?c13 ?k13 ?a14 ?l14 ?c14 ?k14 ?a15 ?l15 ?c15 ?k15 ?a16 ?l16 ?c16 ?k16 ?a17 ?l17 ?c17 ?k17 ?a18 ?l18 ?c18 ?k18 ?a19 ?l19 ?c19 ?k19 ?a20 ?l20 ?c20 ?k20 ?a21 ?l21 ?c21 ?k21 ?a22 ?l22 ?c22 ?k22 ?a23 ?l23 ?c23 ?k23 ?a24 ?l24 ?c24 ?k24 ?a25 ?l25 ?c25 ?k25 ?a26 ?l26 ?c26 ?k26 ?a27 ?l27 ?c27 ?k27 ?a28 ?l28 ?c28 ?k28 ?a29 ?l29 ?c29 ?k29 ?a30 ?l30 ?c30 ?k30 ?a31 ?l31 ?c31 ?k31 ?a32 ?l32 ?c32 ?k32 ?a33 ?l33 ?c33 ?k33 ?a34 ?l34 ?c34 ?k34 ?a35 ?l35 ?c35 ?k35 ?a36 ?l36 ?c36 ?k36 ?a37 ?l37 ?c37 ?k37 ?a38 ?l38 ?c38 ?k38 ?a39 ?l39 ?c39 ?k39 ?a40 ?l40 ?c40 ?k40 ?a41 ?l41 ?c41 ?k41 ?a42 ?l42 ?c42 ?k42 ?a43 ?l43 ?c43 ?k43 ?a44 ?l44 ?c44 ?k44 ?a45 ?l45 ?c45 ?k45 ?a46 ?l46 ?c46 ?k46 ?a47 ?l47 ?c47 ?k47 ?a48 ?l48 ?c48 ?k48 ?a49 ?l49 ?c49 ?k49 ?a50 ?l50 ?c50 ?k50 ?a51 ?l51 ?c51 ?k51 ?a52 ?l52 ?c52 ?k52 ?a53 ?l53 ?c53 ?k53 ?n0 ?n1 ?n2 ?md ?ld ?e1 ?e2 ?e3 ?e4 ?low ?lc ?v11 ?nP ?hdr ?mCLineError ?mCBadClaim ?mCProof ?aI ?iI ?lI ?cI ?kI ?qpg ?qhd ?qpo ?qsa ?qmk ?qkc ?qnr ?qni ?qnc ⟨⟨?x0_1, ?x0_2, ?x0_3, ?x0_4, ?x0_5, ?x0_6, ?x0_7, ?x0_8⟩, ?x0_9, ?x0_10, ?x0_11⟩ (PySem.W.exm_ref ?w1 ?w2 ?w3 ?w4) ?z0 ?z1 ?z2 ?z3 ?z4 ?z5 ?z6 ?z7 ?z8 ?z9 ?z10 ?z11 ?z12 ?z13 ?z14 ?z15 ?z16
    (case a0 => k_is); (case l0 => k_is); (case c0 => k_is); (case k0 => k_is)
    (case a1 => k_is); (case l1 => k_is); (case c1 => k_is); (case k1 => k_is)
    (case a2 => k_is); (case l2 => k_is); (case c2 => k_is); (case k2 => k_is)
    (case a3 => k_is); (case l3 => k_is); (case c3 => k_is); (case k3 => k_is)
    (case a4 => k_is); (case l4 => k_is); (case c4 => k_is); (case k4 => k_is)
    (case a5 => k_is); (case l5 => k_is); (case c5 => k_is); (case k5 => k_is)
    (case a6 => k_is); (case l6 => k_is); (case c6 => k_is); (case k6 => k_is)
    (case a7 => k_is); (case l7 => k_is); (case c7 => k_is); (case k7 => k_is)
    (case a8 => k_is); (case l8 => k_is); (case c8 => k_is); (case k8 => k_is)
    (case a9 => k_is); (case l9 => k_is); (case c9 => k_is); (case k9 => k_is)
    (case a10 => k_is); (case l10 => k_is); (case c10 => k_is); (case k10 => k_is)
    (case a11 => k_is); (case l11 => k_is); (case c11 => k_is); (case k11 => k_is)
    (case a12 => k_is); (case l12 => k_is); (case c12 => k_is); (case k12 => k_is)
    (case a13 => k_is); (case l13 => k_is); (case c13 => k_is); (case k13 => k_is)
    (case a14 => k_is); (case l14 => k_is); (case c14 => k_is); (case k14 => k_is)
    (case a15 => k_is); (case l15 => k_is); (case c15 => k_is); (case k15 => k_is)
    (case a16 => k_is); (case l16 => k_is); (case c16 => k_is); (case k16 => k_is)
    (case a17 => k_is); (case l17 => k_is); (case c17 => k_is); (case k17 => k_is)
    (case a18 => k_is); (case l18 => k_is); (case c18 => k_is); (case k18 => k_is)
    (case a19 => k_is); (case l19 => k_is); (case c19 => k_is); (case k19 => k_is)
    (case a20 => k_is); (case l20 => k_is); (case c20 => k_is); (case k20 => k_is)
    (case a21 => k_is); (case l21 => k_is); (case c21 => k_is); (case k21 => k_is)
    (case a22 => k_is); (case l22 => k_is); (case c22 => k_is); (case k22 => k_is)
    (case a23 => k_is); (case l23 => k_is); (case c23 => k_is); (case k23 => k_is)
    (case a24 => k_is); (case l24 => k_is); (case c24 => k_is); (case k24 => k_is)
    (case a25 => k_is); (case l25 => k_is); (case c25 => k_is); (case k25 => k_is)
    (case a26 => k_is); (case l26 => k_is); (case c26 => k_is); (case k26 => k_is)
    (case a27 => k_is); (case l27 => k_is); (case c27 => k_is); (case k27 => k_is)
    (case a28 => k_is); (case l28 => k_is); (case c28 => k_is); (case k28 => k_is)
    (case a29 => k_is); (case l29 => k_is); (case c29 => k_is); (case k29 => k_is)
    (case a30 => k_is); (case l30 => k_is); (case c30 => k_is); (case k30 => k_is)
    (case a31 => k_is); (case l31 => k_is); (case c31 => k_is); (case k31 => k_is)
    (case a32 => k_is); (case l32 => k_is); (case c32 => k_is); (case k32 => k_is)
    (case a33 => k_is); (case l33 => k_is); (case c33 => k_is); (case k33 => k_is)
    (case a34 => k_is); (case l34 => k_is); (case c34 => k_is); (case k34 => k_is)
    (case a35 => k_is); (case l35 => k_is); (case c35 => k_is); (case k35 => k_is)
    (case a36 => k_is); (case l36 => k_is); (case c36 => k_is); (case k36 => k_is)
    (case a37 => k_is); (case l37 => k_is); (case c37 => k_is); (case k37 => k_is)
    (case a38 => k_is); (case l38 => k_is); (case c38 => k_is); (case k38 => k_is)
    (case a39 => k_is); (case l39 => k_is); (case c39 => k_is); (case k39 => k_is)
    (case a40 => k_is); (case l40 => k_is); (case c40 => k_is); (case k40 => k_is)
    (case a41 => k_is); (case l41 => k_is); (case c41 => k_is); (case k41 => k_is)
    (case a42 => k_is); (case l42 => k_is); (case c42 => k_is); (case k42 => k_is)
    (case a43 => k_is); (case l43 => k_is); (case c43 => k_is); (case k43 => k_is)
    (case a44 => k_is); (case l44 => k_is); (case c44 => k_is); (case k44 => k_is)
    (case a45 => k_is); (case l45 => k_is); (case c45 => k_is); (case k45 => k_is)
    (case a46 => k_is); (case l46 => k_is); (case c46 => k_is); (case k46 => k_is)
    (case a47 => k_is); (case l47 => k_is); (case c47 => k_is); (case k47 => k_is)
    (case a48 => k_is); (case l48 => k_is); (case c48 => k_is); (case k48 => k_is)
    (case a49 => k_is); (case l49 => k_is); (case c49 => k_is); (case k49 => k_is)
    (case a50 => k_is); (case l50 => k_is); (case c50 => k_is); (case k50 => k_is)
    (case a51 => k_is); (case l51 => k_is); (case c51 => k_is); (case k51 => k_is)
    (case a52 => k_is); (case l52 => k_is); (case c52 => k_is); (case k52 => k_is)
    (case a53 => k_is); (case l53 => k_is); (case c53 => k_is); (case k53 => k_is)
    (case n0 => k_is)
    (case n1 => k_is)
    (case n2 => k_is)
    (case md => k_is); (case ld => k_is); (case e1 => rfl); (case e2 => rfl); (case e3 => rfl); (case e4 => rfl); (case low => rfl)
    (case lc => k_is); (case v11 => rfl); (case nP => first | k_is | rfl); (case hdr => first | k_is | rfl)
    (case mCLineError => k_is)
    (case mCBadClaim => k_is)
    (case mCProof => k_is)
    (case aI => k_is); (case iI => k_is); (case lI => k_is); (case cI => k_is); (case kI => k_is)
    (case qpg => k_is)
    (case qhd => k_is)
    (case qpo => k_is)
    (case qsa => k_is)
    (case qmk => k_is)
    (case qkc => k_is)
    (case qnr => k_is)
    (case qni => k_is)
    (case qnc => k_is)
    (case x0_1 => first | k_is | k_exc)
    (case x0_2 => first | k_is | k_exc)
    (case x0_3 => first | k_is | k_exc)
    (case x0_4 => first | k_is | k_exc)
    (case x0_5 => first | k_is | k_exc)
    (case x0_6 => first | k_is | k_exc)
    (case x0_7 => first | k_is | k_exc)
    (case x0_8 => first | k_is | k_exc)
    (case x0_9 => first | k_is | k_exc)
    (case x0_10 => first | k_is | k_exc)
    (case x0_11 => first | k_is | k_exc)
    (case w1 => k_is)
    (case w2 => k_is)
    (case w3 => k_is)
    (case w4 => k_is)
    (case z0 => k_is)
    (case z1 => k_is)
    (case z2 => k_is)
    (case z3 => k_is)
    (case z4 => k_is)
    (case z5 => k_is)
    (case z6 => k_is)
    (case z7 => k_is)
    (case z8 => k_is)
    (case z9 => k_is)
    (case z10 => k_is)
    (case z11 => k_is)
    (case z12 => k_is)
    (case z13 => k_is)
    (case z14 => k_is)
    (case z15 => k_is)
    (case z16 => k_is)
#print axioms PySem.Challenge.cw_lemmaless_k07_whole_decided_holds
