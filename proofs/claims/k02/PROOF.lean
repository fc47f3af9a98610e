import PyProof.Rows.All
import Wide.All
import OpenK.AllK
import Wide.FinOn
import HandS.Text
import KE.KDictList
import HandS.ForMost
import HandS.Deep
import HandS.DictComp
import HandS.IsInst
import HandS.FStr
import HandS.Style
import HandS.More
import HandS.Exc
import HandS.ExcOwn
import HandS.TryOnly
import HandS.ExcCtx
import HandS.ExcIs
import HandS.Hot
import HandS.HotCalls
import HandS.Lambda
import HandS.EndOwn
import KE.KNestM
import PySem.Challenge.RW_lemmaless_k02_what_is_no_formula
set_option Elab.async false
set_option linter.all false
set_option maxRecDepth 100000
/-! formulas as plain data: parts, texts, truth -/
namespace Lm
open PySem

inductive Bw where
  | an | o | th
  deriving DecidableEq
inductive Fm where
  | sg (i : Int)
  | no (f : Fm)
  | bi (w : Bw) (f g : Fm)
  deriving DecidableEq

def Bw.txt : Bw → Str
  | .an => "and"
  | .o => "or"
  | .th => "then"
theorem txt_inj : ∀ {a b : Bw}, a.txt = b.txt → a = b := by
  intro a b h
  cases a <;> cases b <;> first | rfl | exact absurd h (by decide +kernel)
theorem txt_sign : ∀ a : Bw, ¬ a.txt = ("sign" : Str) := by
  intro a; cases a <;> decide +kernel
theorem txt_not : ∀ a : Bw, ¬ a.txt = ("not" : Str) := by
  intro a; cases a <;> decide +kernel

namespace Fm
def toD : Fm → PyData
  | .sg i => .tuple [.str ("sign" : Str), .int i]
  | .no f => .tuple [.str ("not" : Str), f.toD]
  | .bi w f g => .tuple [.str w.txt, f.toD, g.toD]
def size : Fm → Nat
  | .sg _ => 1
  | .no f => f.size + 1
  | .bi _ f g => f.size + g.size + 1
def dep : Fm → Nat
  | .sg _ => 1
  | .no f => f.dep + 1
  | .bi _ f g => max f.dep g.dep + 1
def good : Fm → Prop
  | .sg i => 0 ≤ i ∧ i ≤ 99
  | .no f => f.good
  | .bi _ f g => f.good ∧ g.good
def kids : Fm → List Fm
  | .sg _ => []
  | .no f => [f]
  | .bi _ f g => [f, g]
def parts : Fm → List Fm
  | .sg i => [.sg i]
  | .no f => .no f :: f.parts
  | .bi w f g => .bi w f g :: (f.parts ++ g.parts)
def tr (S : Int → Bool) : Fm → Bool
  | .sg i => S i
  | .no f => !(f.tr S)
  | .bi .an f g => f.tr S && g.tr S
  | .bi .o f g => f.tr S || g.tr S
  | .bi .th f g => !(f.tr S) || g.tr S
theorem size_pos : ∀ f : Fm, 0 < f.size
  | .sg _ => Nat.one_pos
  | .no f => Nat.succ_pos _
  | .bi _ f g => Nat.succ_pos _
theorem dep_pos : ∀ f : Fm, 0 < f.dep
  | .sg _ => Nat.one_pos
  | .no f => Nat.succ_pos _
  | .bi _ f g => Nat.succ_pos _
theorem size_dep : ∀ f : Fm, f.size + 1 ≤ 2 ^ f.dep
  | .sg _ => by show 2 ≤ 2 ^ 1; decide
  | .no f => by
    have h := size_dep f
    have hp := size_pos f
    show f.size + 1 + 1 ≤ 2 ^ (f.dep + 1)
    rw [Nat.pow_succ]
    omega
  | .bi _ f g => by
    have h1 := size_dep f
    have h2 := size_dep g
    have m1 : 2 ^ f.dep ≤ 2 ^ (max f.dep g.dep) := Nat.pow_le_pow_right (by decide) (Nat.le_max_left _ _)
    have m2 : 2 ^ g.dep ≤ 2 ^ (max f.dep g.dep) := Nat.pow_le_pow_right (by decide) (Nat.le_max_right _ _)
    show f.size + g.size + 1 + 1 ≤ 2 ^ (max f.dep g.dep + 1)
    rw [Nat.pow_succ]
    omega
theorem self_part : ∀ f : Fm, f ∈ f.parts
  | .sg _ => List.mem_singleton.mpr rfl
  | .no _ => List.mem_cons_self
  | .bi _ _ _ => List.mem_cons_self
theorem part_size : ∀ {f p : Fm}, p ∈ f.parts → p.size ≤ f.size
  | .sg i, p, h => by
    have e : p = .sg i := List.mem_singleton.mp h
    rw [e]; exact Nat.le_refl _
  | .no f, p, h => by
    rcases List.mem_cons.mp h with e | h
    · rw [e]; exact Nat.le_refl _
    · have := part_size h
      show p.size ≤ f.size + 1
      omega
  | .bi w f g, p, h => by
    rcases List.mem_cons.mp h with e | h
    · rw [e]; exact Nat.le_refl _
    · show p.size ≤ f.size + g.size + 1
      rcases List.mem_append.mp h with h | h
      · have := part_size h
        omega
      · have := part_size h
        omega
theorem part_good : ∀ {f p : Fm}, f.good → p ∈ f.parts → p.good
  | .sg i, p, hg, h => by
    have e : p = .sg i := List.mem_singleton.mp h
    rw [e]; exact hg
  | .no f, p, hg, h => by
    rcases List.mem_cons.mp h with e | h
    · rw [e]; exact hg
    · exact part_good (f := f) hg h
  | .bi w f g, p, hg, h => by
    rcases List.mem_cons.mp h with e | h
    · rw [e]; exact hg
    · rcases List.mem_append.mp h with h | h
      · exact part_good (f := f) hg.1 h
      · exact part_good (f := g) hg.2 h
theorem part_dep : ∀ {f p : Fm}, p ∈ f.parts → p.dep ≤ f.dep
  | .sg i, p, h => by
    have e : p = .sg i := List.mem_singleton.mp h
    rw [e]; exact Nat.le_refl _
  | .no f, p, h => by
    rcases List.mem_cons.mp h with e | h
    · rw [e]; exact Nat.le_refl _
    · have := part_dep h
      show p.dep ≤ f.dep + 1
      omega
  | .bi w f g, p, h => by
    rcases List.mem_cons.mp h with e | h
    · rw [e]; exact Nat.le_refl _
    · show p.dep ≤ max f.dep g.dep + 1
      rcases List.mem_append.mp h with h | h
      · have := part_dep h
        omega
      · have := part_dep h
        omega
/-! ### data equal just where the formulas are -/
theorem e_tup (xs ys : List PyData) : PyData.eqv (.tuple xs) (.tuple ys) = PyData.eqvAll xs ys := by simp only [PyData.eqv]
theorem e_cons (x y : PyData) (xs ys : List PyData) : PyData.eqvAll (x :: xs) (y :: ys) = (PyData.eqv x y && PyData.eqvAll xs ys) := by simp only [PyData.eqvAll]
theorem e_nil : PyData.eqvAll [] [] = true := by simp only [PyData.eqvAll]
theorem e_short (y : PyData) (ys : List PyData) : PyData.eqvAll [] (y :: ys) = false := by simp only [PyData.eqvAll]
theorem e_long (y : PyData) (ys : List PyData) : PyData.eqvAll (y :: ys) [] = false := by simp only [PyData.eqvAll]
theorem e_str (x y : Str) : PyData.eqv (.str x) (.str y) = (x == y) := by simp only [PyData.eqv]
theorem e_int (x y : Int) : PyData.eqv (.int x) (.int y) = (x == y) := by simp only [PyData.eqv]
theorem toD_sg (i : Int) : (Fm.sg i).toD = .tuple [.str ("sign" : Str), .int i] := rfl
theorem toD_no (f : Fm) : (Fm.no f).toD = .tuple [.str ("not" : Str), f.toD] := rfl
theorem toD_bi (w : Bw) (f g : Fm) : (Fm.bi w f g).toD = .tuple [.str w.txt, f.toD, g.toD] := rfl
theorem toD_eqv : ∀ f g : Fm, PyData.eqv f.toD g.toD = decide (f = g)
  | .sg i, .sg j => by
    rw [toD_sg, toD_sg, e_tup, e_cons, e_cons, e_nil, e_str, e_int, beq_self_eq_true, Bool.true_and, Bool.and_true]
    by_cases h : i = j
    · rw [h, beq_self_eq_true]; exact (decide_eq_true rfl).symm
    · rw [decide_eq_false (fun q => h (Fm.sg.inj q))]; exact beq_eq_false_iff_ne.mpr h
  | .no f, .no g => by
    rw [toD_no, toD_no, e_tup, e_cons, e_cons, e_nil, e_str, beq_self_eq_true, Bool.true_and, Bool.and_true, toD_eqv f g]
    by_cases h : f = g
    · rw [h]; simp
    · rw [decide_eq_false h, decide_eq_false (fun q => h (Fm.no.inj q))]
  | .bi w f g, .bi v f' g' => by
    rw [toD_bi, toD_bi, e_tup, e_cons, e_cons, e_cons, e_nil, e_str, Bool.and_true, toD_eqv f f', toD_eqv g g']
    by_cases hw : w = v
    · subst hw
      rw [beq_self_eq_true, Bool.true_and]
      by_cases h1 : f = f'
      · subst h1
        by_cases h2 : g = g'
        · subst h2; simp
        · rw [decide_eq_false h2, Bool.and_false, decide_eq_false]
          intro q; exact h2 (Fm.bi.inj q).2.2
      · rw [decide_eq_false h1, Bool.false_and, decide_eq_false]
        intro q; exact h1 (Fm.bi.inj q).2.1
    · have q : (w.txt == v.txt) = false := beq_eq_false_iff_ne.mpr fun z => hw (txt_inj z)
      rw [q, Bool.false_and, decide_eq_false]
      intro z; exact hw (Fm.bi.inj z).1
  | .sg i, .no g => by
    rw [toD_sg, toD_no, e_tup, e_cons, e_str, show (("sign" : Str) == ("not" : Str)) = false from by decide +kernel, Bool.false_and, decide_eq_false (fun q => nomatch q)]
  | .no f, .sg j => by
    rw [toD_sg, toD_no, e_tup, e_cons, e_str, show (("not" : Str) == ("sign" : Str)) = false from by decide +kernel, Bool.false_and, decide_eq_false (fun q => nomatch q)]
  | .sg i, .bi v f g => by
    rw [toD_sg, toD_bi, e_tup, e_cons, e_cons, e_short, Bool.and_false, Bool.and_false, decide_eq_false (fun q => nomatch q)]
  | .bi v f g, .sg i => by
    rw [toD_sg, toD_bi, e_tup, e_cons, e_cons, e_long, Bool.and_false, Bool.and_false, decide_eq_false (fun q => nomatch q)]
  | .no f', .bi v f g => by
    rw [toD_no, toD_bi, e_tup, e_cons, e_cons, e_short, Bool.and_false, Bool.and_false, decide_eq_false (fun q => nomatch q)]
  | .bi v f g, .no f' => by
    rw [toD_no, toD_bi, e_tup, e_cons, e_cons, e_long, Bool.and_false, Bool.and_false, decide_eq_false (fun q => nomatch q)]
theorem toD_lay : ∀ f : Fm, f.toD.canLay0 = true
  | .sg i => by
    simp only [toD, PyData.canLay0, PyData.canLayAll0, Bool.and_true]
    decide +kernel
  | .no f => by
    have h := toD_lay f
    simp only [toD, PyData.canLay0, PyData.canLayAll0, Bool.and_true, h]
    decide +kernel
  | .bi w f g => by
    have h := toD_lay f
    have h2 := toD_lay g
    simp only [toD, PyData.canLay0, PyData.canLayAll0, Bool.and_true, h, h2]
    cases w <;> decide +kernel
theorem toD_depth : ∀ f : Fm, f.toD.depth = f.dep
  | .sg i => by simp [toD, PyData.depth, PyData.depthAll, dep]
  | .no f => by
    have h := toD_depth f
    simp [toD, PyData.depth, PyData.depthAll, dep, h]
  | .bi w f g => by
    have h := toD_depth f
    have h2 := toD_depth g
    simp [toD, PyData.depth, PyData.depthAll, dep, h, h2]
end Fm

theorem lays_all : ∀ fs : List Fm, PyData.canLayAll0 (fs.map Fm.toD) = true
  | [] => rfl
  | f :: fs => by
    have h := lays_all fs
    simp only [List.map_cons, PyData.canLayAll0, Fm.toD_lay f, h, Bool.and_true]
theorem depths_all {n : Nat} : ∀ fs : List Fm, (∀ f ∈ fs, f.dep ≤ n) → PyData.depthAll (fs.map Fm.toD) ≤ n
  | [], _ => Nat.zero_le _
  | f :: fs, h => by
    have h1 := depths_all fs fun g hg => h g (List.mem_cons_of_mem _ hg)
    have h2 := h f List.mem_cons_self
    simp only [List.map_cons, PyData.depthAll, Fm.toD_depth f]
    omega
theorem shaped_fm (f : Fm) (h : f.dep ≤ 64) : SeqAt.shaped f.toD = true := by
  show (f.toD.canLay0 && decide (f.toD.depth ≤ 64)) = true
  rw [Fm.toD_lay, Fm.toD_depth, Bool.true_and]
  exact decide_eq_true h
theorem shaped_fms (fs : List Fm) (h : ∀ f ∈ fs, f.dep ≤ 63) : SeqAt.shaped (.list (fs.map Fm.toD)) = true := by
  have h1 := depths_all fs h
  show (PyData.canLayAll0 (fs.map Fm.toD) && decide (PyData.depthAll (fs.map Fm.toD) + 1 ≤ 64)) = true
  rw [lays_all, Bool.true_and]
  exact decide_eq_true (by omega)
theorem eqv_fms (fs : List Fm) : PyData.eqv (.list (fs.map Fm.toD)) (.list (fs.map Fm.toD)) = true := SeqAt.eqv_refl _ (lays_all fs)
theorem any_fm (f : Fm) : ∀ fs : List Fm, ((fs.map Fm.toD).any fun z => PyData.eqv z f.toD) = decide (f ∈ fs)
  | [] => by simp
  | g :: fs => by
    rw [List.map_cons, List.any_cons, any_fm f fs, Fm.toD_eqv]
    by_cases h : g = f
    · subst h
      simp
    · rw [decide_eq_false h, Bool.false_or]
      by_cases h2 : f ∈ fs
      · rw [decide_eq_true h2, decide_eq_true (List.mem_cons_of_mem _ h2)]
      · rw [decide_eq_false h2, decide_eq_false]
        intro q
        rcases List.mem_cons.mp q with e | e
        · exact h e.symm
        · exact h2 e

/-! ### parts, each where it stands first: by the program's way (a part that is there is passed over), by the law's (all is walked) -/
def findP : Fm → List Fm → List Fm
  | f, acc => if f ∈ acc then acc else match f with
    | .sg i => acc ++ [.sg i]
    | .no g => findP g (acc ++ [.no g])
    | .bi w g h => findP h (findP g (acc ++ [.bi w g h]))
def walkP : Fm → List Fm → List Fm
  | .sg i, acc => if Fm.sg i ∈ acc then acc else acc ++ [.sg i]
  | .no g, acc => walkP g (if Fm.no g ∈ acc then acc else acc ++ [.no g])
  | .bi w g h, acc => walkP h (walkP g (if Fm.bi w g h ∈ acc then acc else acc ++ [.bi w g h]))
theorem findP_in {f : Fm} {acc : List Fm} (h : f ∈ acc) : findP f acc = acc := by
  cases f <;> (unfold findP; rw [if_pos h])
theorem findP_out {f : Fm} {acc : List Fm} (h : ¬ f ∈ acc) : findP f acc = f.kids.foldl (fun a g => findP g a) (acc ++ [f]) := by
  cases f <;> (rw [findP, if_neg h]; rfl)
theorem walkP_eq (f : Fm) (acc : List Fm) : walkP f acc = f.kids.foldl (fun a g => walkP g a) (if f ∈ acc then acc else acc ++ [f]) := by
  cases f <;> rfl
theorem walkP_stay : ∀ (f : Fm) (acc : List Fm), (∀ p ∈ f.parts, p ∈ acc) → walkP f acc = acc
  | .sg i, acc, h => by rw [walkP, if_pos (h _ (Fm.self_part _))]
  | .no g, acc, h => by
    rw [walkP, if_pos (h _ (Fm.self_part _))]
    exact walkP_stay g acc fun p hp => h p (List.mem_cons_of_mem _ hp)
  | .bi w g k, acc, h => by
    rw [walkP, if_pos (h _ (Fm.self_part _)), walkP_stay g acc fun p hp => h p (List.mem_cons_of_mem _ (List.mem_append_left _ hp))]
    exact walkP_stay k acc fun p hp => h p (List.mem_cons_of_mem _ (List.mem_append_right _ hp))
/-- what is small is whole in acc -/
def Whole (n : Nat) (acc : List Fm) : Prop := ∀ g ∈ acc, g.size ≤ n → ∀ p ∈ g.parts, p ∈ acc
theorem Whole.mono {m n : Nat} {acc : List Fm} (h : Whole n acc) (e : m ≤ n) : Whole m acc := fun g hg hs => h g hg (Nat.le_trans hs e)
theorem walk_sub : ∀ (f : Fm) (acc : List Fm), ∀ g ∈ acc, g ∈ walkP f acc
  | .sg i, acc, g, h => by
    rw [walkP]; split
    · exact h
    · exact List.mem_append_left _ h
  | .no k, acc, g, h => by
    rw [walkP]
    refine walk_sub k _ g ?_
    split
    · exact h
    · exact List.mem_append_left _ h
  | .bi w k l, acc, g, h => by
    rw [walkP]
    refine walk_sub l _ g (walk_sub k _ g ?_)
    split
    · exact h
    · exact List.mem_append_left _ h
theorem walk_has : ∀ (f : Fm) (acc : List Fm), ∀ p ∈ f.parts, p ∈ walkP f acc
  | .sg i, acc, p, h => by
    have e : p = .sg i := List.mem_singleton.mp h
    rw [e, walkP]; split
    · assumption
    · exact List.mem_append_right _ (List.mem_singleton.mpr rfl)
  | .no k, acc, p, h => by
    rw [walkP]
    rcases List.mem_cons.mp h with e | h
    · rw [e]
      refine walk_sub k _ _ ?_
      split
      · assumption
      · exact List.mem_append_right _ (List.mem_singleton.mpr rfl)
    · exact walk_has k _ p h
  | .bi w k l, acc, p, h => by
    rw [walkP]
    rcases List.mem_cons.mp h with e | h
    · rw [e]
      refine walk_sub l _ _ (walk_sub k _ _ ?_)
      split
      · assumption
      · exact List.mem_append_right _ (List.mem_singleton.mpr rfl)
    · rcases List.mem_append.mp h with h | h
      · exact walk_sub l _ _ (walk_has k _ p h)
      · exact walk_has l _ p h
/-- what is new in the walk is a part of f -/
theorem walk_new : ∀ (f : Fm) (acc : List Fm), ∀ g ∈ walkP f acc, g ∈ acc ∨ g ∈ f.parts
  | .sg i, acc, g, h => by
    rw [walkP] at h
    split at h
    · exact .inl h
    · exact (List.mem_append.mp h)
  | .no k, acc, g, h => by
    rw [walkP] at h
    rcases walk_new k _ g h with h | h
    · split at h
      · exact .inl h
      · rcases List.mem_append.mp h with h | h
        · exact .inl h
        · exact .inr (List.mem_singleton.mp h ▸ Fm.self_part _)
    · exact .inr (List.mem_cons_of_mem _ h)
  | .bi w k l, acc, g, h => by
    rw [walkP] at h
    rcases walk_new l _ g h with h | h
    · rcases walk_new k _ g h with h | h
      · split at h
        · exact .inl h
        · rcases List.mem_append.mp h with h | h
          · exact .inl h
          · exact .inr (List.mem_singleton.mp h ▸ Fm.self_part _)
      · exact .inr (List.mem_cons_of_mem _ (List.mem_append_left _ h))
    · exact .inr (List.mem_cons_of_mem _ (List.mem_append_right _ h))
theorem Fm.part_trans : ∀ {f p q : Fm}, p ∈ f.parts → q ∈ p.parts → q ∈ f.parts
  | .sg i, p, q, hp, hq => by
    have e : p = .sg i := List.mem_singleton.mp hp
    rw [e] at hq; exact hq
  | .no f, p, q, hp, hq => by
    rcases List.mem_cons.mp hp with e | hp
    · rw [e] at hq; exact hq
    · exact List.mem_cons_of_mem _ (Fm.part_trans hp hq)
  | .bi w f g, p, q, hp, hq => by
    rcases List.mem_cons.mp hp with e | hp
    · rw [e] at hq; exact hq
    · rcases List.mem_append.mp hp with hp | hp
      · exact List.mem_cons_of_mem _ (List.mem_append_left _ (Fm.part_trans hp hq))
      · exact List.mem_cons_of_mem _ (List.mem_append_right _ (Fm.part_trans hp hq))
/-- behind the walk of f what was whole is whole, and f's parts -/
theorem walk_whole {f : Fm} {acc : List Fm} {n : Nat} (h : Whole n acc) : Whole n (walkP f acc) := fun g hg hs p hp => by
  rcases walk_new f acc g hg with q | q
  · exact walk_sub f acc p (h g q hs p hp)
  · exact walk_has f acc p (Fm.part_trans q hp)
theorem whole_snoc {f : Fm} {acc : List Fm} {n : Nat} (h : Whole n acc) (hf : n < f.size) : Whole n (acc ++ [f]) := fun g hg hs p hp => by
  rcases List.mem_append.mp hg with q | q
  · exact List.mem_append_left _ (h g q hs p hp)
  · have e := List.mem_singleton.mp q
    subst e
    omega
theorem find_walk : ∀ (f : Fm) (acc : List Fm), Whole f.size acc → findP f acc = walkP f acc
  | .sg i, acc, h => by
    by_cases c : Fm.sg i ∈ acc
    · rw [findP_in c, walkP, if_pos c]
    · rw [findP_out c, walkP, if_neg c]; rfl
  | .no g, acc, h => by
    by_cases c : Fm.no g ∈ acc
    · rw [findP_in c, walkP_stay _ _ (h _ c (Nat.le_refl _))]
    · rw [findP_out c, walkP, if_neg c]
      show findP g (acc ++ [Fm.no g]) = _
      exact find_walk g _ (whole_snoc (h.mono (by show g.size ≤ g.size + 1; omega)) (by show g.size < g.size + 1; omega))
  | .bi w g k, acc, h => by
    by_cases c : Fm.bi w g k ∈ acc
    · rw [findP_in c, walkP_stay _ _ (h _ c (Nat.le_refl _))]
    · rw [findP_out c, walkP, if_neg c]
      show findP k (findP g (acc ++ [Fm.bi w g k])) = _
      have sz : (Fm.bi w g k).size = g.size + k.size + 1 := rfl
      have hp := Fm.size_pos g
      have hq := Fm.size_pos k
      have w1 : ∀ m, m ≤ g.size + k.size → Whole m (acc ++ [Fm.bi w g k]) := fun m hm => whole_snoc (h.mono (by omega)) (by omega)
      rw [find_walk g _ (w1 _ (by omega))]
      exact find_walk k _ (walk_whole (w1 _ (by omega)))
theorem whole_nil (n : Nat) : Whole n [] := fun _ h => nomatch h
theorem find_is_walk (f : Fm) : findP f [] = walkP f [] := find_walk f [] (whole_nil _)
theorem findP_len : ∀ (f : Fm) (acc : List Fm), (findP f acc).length ≤ acc.length + f.size
  | .sg i, acc => by
    rw [findP]; split
    · omega
    · rw [List.length_append]; exact Nat.le_refl _
  | .no g, acc => by
    rw [findP]; split
    · omega
    · have := findP_len g (acc ++ [.no g])
      rw [List.length_append] at this
      show _ ≤ acc.length + (g.size + 1)
      have e : [Fm.no g].length = 1 := rfl
      show (findP g (acc ++ [.no g])).length ≤ _
      omega
  | .bi w g k, acc => by
    rw [findP]; split
    · omega
    · have h1 := findP_len g (acc ++ [.bi w g k])
      have h2 := findP_len k (findP g (acc ++ [.bi w g k]))
      rw [List.length_append] at h1
      have e : [Fm.bi w g k].length = 1 := rfl
      show (findP k (findP g (acc ++ [.bi w g k]))).length ≤ acc.length + (g.size + k.size + 1)
      omega
theorem walkP_len : ∀ (f : Fm) (acc : List Fm), (walkP f acc).length ≤ acc.length + f.size
  | .sg i, acc => by
    rw [walkP]; split
    · omega
    · rw [List.length_append]; exact Nat.le_refl _
  | .no g, acc => by
    rw [walkP]
    have := walkP_len g (if Fm.no g ∈ acc then acc else acc ++ [.no g])
    have e : (if Fm.no g ∈ acc then acc else acc ++ [.no g]).length ≤ acc.length + 1 := by
      split
      · omega
      · rw [List.length_append]; exact Nat.le_refl _
    show _ ≤ acc.length + (g.size + 1)
    omega
  | .bi w g k, acc => by
    rw [walkP]
    have h1 := walkP_len g (if Fm.bi w g k ∈ acc then acc else acc ++ [.bi w g k])
    have h2 := walkP_len k (walkP g (if Fm.bi w g k ∈ acc then acc else acc ++ [.bi w g k]))
    have e : (if Fm.bi w g k ∈ acc then acc else acc ++ [.bi w g k]).length ≤ acc.length + 1 := by
      split
      · omega
      · rw [List.length_append]; exact Nat.le_refl _
    show _ ≤ acc.length + (g.size + k.size + 1)
    omega

/-! ### the texts -/
open PySem.Spec
open TL (tl tl_append tl_ofString ext_tl)
def isDig (c : Nat) : Bool := decide (48 ≤ c) && decide (c ≤ 57)
def digs (i : Int) : List Nat := (toString i).toList.map Char.toNat
def valD (l : List Nat) : Int := l.foldl (fun (a : Int) (c : Nat) => a * 10 + ((c : Int) - 48)) 0
/-- the text of a formula -/
def spS : Fm → Str
  | .sg i => (toString i : String)
  | .no f => ((((Str.empty ++ ("not" : Str)) ++ ("(" : Str)) ++ Txt.join ("," : Str) [spS f]) ++ (")" : Str))
  | .bi w f g => ((((Str.empty ++ w.txt) ++ ("(" : Str)) ++ Txt.join ("," : Str) [spS f, spS g]) ++ (")" : Str))
/-- its codes -/
def sp : Fm → List Nat
  | .sg i => digs i
  | .no f => tl ("not" : Str) ++ (40 :: (sp f ++ [41]))
  | .bi w f g => tl w.txt ++ (40 :: (sp f ++ (44 :: (sp g ++ [41]))))
theorem tl_empty : tl Str.empty = [] := rfl
theorem tl_open : tl ("(" : Str) = [40] := by decide +kernel
theorem tl_close : tl (")" : Str) = [41] := by decide +kernel
theorem tl_comma : tl ("," : Str) = [44] := by decide +kernel
theorem spS_tl : ∀ f : Fm, tl (spS f) = sp f
  | .sg i => tl_ofString (toString i)
  | .no f => by
    have h := spS_tl f
    have e : Txt.join ("," : Str) [spS f] = spS f := by rw [TL.join_eq]; rfl
    show tl ((((Str.empty ++ ("not" : Str)) ++ ("(" : Str)) ++ Txt.join ("," : Str) [spS f]) ++ (")" : Str)) = tl ("not" : Str) ++ (40 :: (sp f ++ [41]))
    rw [e, tl_append, tl_append, tl_append, tl_append, tl_empty, tl_open, tl_close, h]
    simp only [List.nil_append, List.append_assoc, List.cons_append]
  | .bi w f g => by
    have h := spS_tl f
    have h2 := spS_tl g
    have e : Txt.join ("," : Str) [spS f, spS g] = (spS f ++ ("," : Str)) ++ spS g := by rw [TL.join_eq]; rfl
    show tl ((((Str.empty ++ w.txt) ++ ("(" : Str)) ++ Txt.join ("," : Str) [spS f, spS g]) ++ (")" : Str)) = tl w.txt ++ (40 :: (sp f ++ (44 :: (sp g ++ [41]))))
    rw [e, tl_append, tl_append, tl_append, tl_append, tl_append, tl_append, tl_empty, tl_open, tl_close, tl_comma, h, h2]
    simp only [List.nil_append, List.append_assoc, List.cons_append]
theorem digs_all : ∀ n : Fin 100, ((digs ((n.val : Nat) : Int)).all isDig && !(digs ((n.val : Nat) : Int)).isEmpty && decide (valD (digs ((n.val : Nat) : Int)) = ((n.val : Nat) : Int)) && decide ((digs ((n.val : Nat) : Int)).length ≤ 2)) = true := by decide +kernel
theorem digs_of {i : Int} (h : 0 ≤ i ∧ i ≤ 99) : (digs i).all isDig = true ∧ (digs i) ≠ [] ∧ valD (digs i) = i ∧ (digs i).length ≤ 2 := by
  obtain ⟨n, rfl⟩ := Int.eq_ofNat_of_zero_le h.1
  have q := digs_all ⟨n, by omega⟩
  simp only [Bool.and_eq_true, decide_eq_true_eq] at q
  obtain ⟨⟨⟨q1, q2⟩, q3⟩, q4⟩ := q
  refine ⟨q1, fun z => ?_, q3, q4⟩
  have z' : digs ((n : Nat) : Int) = [] := z
  rw [z'] at q2
  exact absurd q2 (by decide)
/-- no digit ahead -/
def Nd (r : List Nat) : Prop := r.takeWhile isDig = []
theorem nd_cons {c : Nat} (h : isDig c = false) (r : List Nat) : Nd (c :: r) := by
  unfold Nd
  rw [List.takeWhile_cons, h]
  rfl
theorem take_dig : ∀ {l r : List Nat}, l.all isDig = true → Nd r → (l ++ r).takeWhile isDig = l
  | [], r, _, h => h
  | c :: l, r, h, hr => by
    rw [List.all_cons, Bool.and_eq_true] at h
    rw [List.cons_append, List.takeWhile_cons, h.1, if_pos rfl, take_dig h.2 hr]
theorem head_txt (w : Bw) : ∃ c r, tl w.txt = c :: r ∧ isDig c = false ∧ c ≠ 110 ∧ c = (match w with | .an => 97 | .o => 111 | .th => 116) := by
  cases w
  · exact ⟨97, [110, 100], by decide +kernel, by decide, by decide, rfl⟩
  · exact ⟨111, [114], by decide +kernel, by decide, by decide, rfl⟩
  · exact ⟨116, [104, 101, 110], by decide +kernel, by decide, by decide, rfl⟩
theorem tl_not : tl ("not" : Str) = [110, 111, 116] := by decide +kernel
theorem dig_head {i : Int} (h : 0 ≤ i ∧ i ≤ 99) : ∃ c r, digs i = c :: r ∧ isDig c = true := by
  obtain ⟨h1, h2, _, _⟩ := digs_of h
  cases e : digs i with
  | nil => exact absurd e h2
  | cons c r =>
    rw [e, List.all_cons, Bool.and_eq_true] at h1
    exact ⟨c, r, rfl, h1.1⟩
theorem sp_split : ∀ (f g : Fm) (r r' : List Nat), f.good → g.good → Nd r → Nd r' → sp f ++ r = sp g ++ r' → f = g ∧ r = r'
  | .sg i, .sg j, r, r', hf, hg, hr, hr', e => by
    obtain ⟨a1, _, a3, _⟩ := digs_of hf
    obtain ⟨b1, _, b3, _⟩ := digs_of hg
    have t := congrArg (List.takeWhile isDig) e
    rw [show sp (.sg i) = digs i from rfl, show sp (.sg j) = digs j from rfl, take_dig a1 hr, take_dig b1 hr'] at t
    have ij : i = j := by rw [← a3, ← b3, t]
    subst ij
    exact ⟨rfl, List.append_cancel_left e⟩
  | .no f, .no g, r, r', hf, hg, hr, hr', e => by
    have e1 : tl ("not" : Str) ++ (40 :: (sp f ++ [41])) ++ r = tl ("not" : Str) ++ (40 :: (sp g ++ [41])) ++ r' := e
    simp only [List.append_assoc, List.cons_append] at e1
    have e2 := List.append_cancel_left e1
    have e3 := (List.cons.inj e2).2
    obtain ⟨q1, q2⟩ := sp_split f g _ _ hf hg (nd_cons (by decide) _) (nd_cons (by decide) _) e3
    subst q1
    exact ⟨rfl, by simpa using q2⟩
  | .bi w f g, .bi v f' g', r, r', hf, hg, hr, hr', e => by
    have e1 : tl w.txt ++ (40 :: (sp f ++ (44 :: (sp g ++ [41])))) ++ r = tl v.txt ++ (40 :: (sp f' ++ (44 :: (sp g' ++ [41])))) ++ r' := e
    have hw : w = v := by
      obtain ⟨c, x, h1, _, _, h4⟩ := head_txt w
      obtain ⟨d, y, k1, _, _, k4⟩ := head_txt v
      rw [h1, k1] at e1
      have z := (List.cons.inj e1).1
      rw [h4, k4] at z
      cases w <;> cases v <;> first | rfl | exact absurd z (by decide)
    subst hw
    simp only [List.append_assoc, List.cons_append] at e1
    have e3 := (List.cons.inj (List.append_cancel_left e1)).2
    obtain ⟨q1, q2⟩ := sp_split f f' _ _ hf.1 hg.1 (nd_cons (by decide) _) (nd_cons (by decide) _) e3
    subst q1
    have e4 := (List.cons.inj q2).2
    obtain ⟨p1, p2⟩ := sp_split g g' _ _ hf.2 hg.2 (nd_cons (by decide) _) (nd_cons (by decide) _) e4
    subst p1
    exact ⟨rfl, by simpa using p2⟩
  | .sg i, .no g, r, r', hf, hg, hr, hr', e => by
    obtain ⟨c, x, h1, h2⟩ := dig_head hf
    rw [show sp (.sg i) = digs i from rfl, show sp (.no g) = tl ("not" : Str) ++ (40 :: (sp g ++ [41])) from rfl, h1, tl_not] at e
    have z := (List.cons.inj e).1
    rw [z] at h2
    exact absurd h2 (by decide)
  | .no g, .sg i, r, r', hg, hf, hr, hr', e => by
    obtain ⟨c, x, h1, h2⟩ := dig_head hf
    rw [show sp (.sg i) = digs i from rfl, show sp (.no g) = tl ("not" : Str) ++ (40 :: (sp g ++ [41])) from rfl, h1, tl_not] at e
    have z := (List.cons.inj e).1
    rw [← z] at h2
    exact absurd h2 (by decide)
  | .sg i, .bi w f g, r, r', hf, hg, hr, hr', e => by
    obtain ⟨c, x, h1, h2⟩ := dig_head hf
    obtain ⟨d, y, k1, k2, _, _⟩ := head_txt w
    rw [show sp (.sg i) = digs i from rfl, show sp (.bi w f g) = tl w.txt ++ (40 :: (sp f ++ (44 :: (sp g ++ [41])))) from rfl, h1, k1] at e
    have z := (List.cons.inj e).1
    rw [z, k2] at h2
    cases h2
  | .bi w f g, .sg i, r, r', hg, hf, hr, hr', e => by
    obtain ⟨c, x, h1, h2⟩ := dig_head hf
    obtain ⟨d, y, k1, k2, _, _⟩ := head_txt w
    rw [show sp (.sg i) = digs i from rfl, show sp (.bi w f g) = tl w.txt ++ (40 :: (sp f ++ (44 :: (sp g ++ [41])))) from rfl, h1, k1] at e
    have z := (List.cons.inj e).1
    rw [← z, k2] at h2
    cases h2
  | .no f', .bi w f g, r, r', hf, hg, hr, hr', e => by
    obtain ⟨d, y, k1, _, k3, _⟩ := head_txt w
    rw [show sp (.no f') = tl ("not" : Str) ++ (40 :: (sp f' ++ [41])) from rfl, show sp (.bi w f g) = tl w.txt ++ (40 :: (sp f ++ (44 :: (sp g ++ [41])))) from rfl, tl_not, k1] at e
    exact absurd (List.cons.inj e).1.symm k3
  | .bi w f g, .no f', r, r', hf, hg, hr, hr', e => by
    obtain ⟨d, y, k1, _, k3, _⟩ := head_txt w
    rw [show sp (.no f') = tl ("not" : Str) ++ (40 :: (sp f' ++ [41])) from rfl, show sp (.bi w f g) = tl w.txt ++ (40 :: (sp f ++ (44 :: (sp g ++ [41])))) from rfl, tl_not, k1] at e
    exact absurd (List.cons.inj e).1 k3
theorem spS_inj {f g : Fm} (hf : f.good) (hg : g.good) (e : spS f = spS g) : f = g := by
  have e1 : sp f ++ [] = sp g ++ [] := by rw [← spS_tl, ← spS_tl, e]
  exact (sp_split f g [] [] hf hg rfl rfl e1).1
theorem txt_len (w : Bw) : (tl w.txt).length ≤ 4 := by cases w <;> decide +kernel
theorem sp_len : ∀ {f : Fm}, f.good → (sp f).length + 7 ≤ 9 * 2 ^ (f.dep - 1)
  | .sg i, h => by
    have q := (digs_of h).2.2.2
    show (digs i).length + 7 ≤ 9 * 2 ^ (1 - 1)
    simp only [Nat.sub_self, Nat.pow_zero]
    omega
  | .no f, h => by
    have q := sp_len (f := f) h
    have hp := Fm.dep_pos f
    have e : f.dep + 1 - 1 = (f.dep - 1) + 1 := by omega
    show (tl ("not" : Str) ++ (40 :: (sp f ++ [41]))).length + 7 ≤ 9 * 2 ^ (f.dep + 1 - 1)
    rw [e, Nat.pow_succ, tl_not]
    simp only [List.length_append, List.length_cons, List.length_nil]
    have pos : 1 ≤ 2 ^ (f.dep - 1) := Nat.one_le_two_pow
    omega
  | .bi w f g, h => by
    have q1 := sp_len (f := f) h.1
    have q2 := sp_len (f := g) h.2
    have hp := Fm.dep_pos f
    have hq := Fm.dep_pos g
    have m1 : 2 ^ (f.dep - 1) ≤ 2 ^ (max f.dep g.dep - 1) := Nat.pow_le_pow_right (by decide) (by omega)
    have m2 : 2 ^ (g.dep - 1) ≤ 2 ^ (max f.dep g.dep - 1) := Nat.pow_le_pow_right (by decide) (by omega)
    have e : max f.dep g.dep + 1 - 1 = (max f.dep g.dep - 1) + 1 := by omega
    have t := txt_len w
    show (tl w.txt ++ (40 :: (sp f ++ (44 :: (sp g ++ [41]))))).length + 7 ≤ 9 * 2 ^ (max f.dep g.dep + 1 - 1)
    rw [e, Nat.pow_succ]
    simp only [List.length_append, List.length_cons, List.length_nil]
    omega
theorem spS_len {f : Fm} (h : f.good) (hd : f.dep ≤ 12) : (spS f).length ≤ 18500 := by
  have q := sp_len h
  have m : 2 ^ (f.dep - 1) ≤ 2 ^ 11 := Nat.pow_le_pow_right (by decide) (by omega)
  rw [TL.len_tl, spS_tl]
  have e : (2 : Nat) ^ 11 = 2048 := by decide
  omega
end Lm
set_option Elab.async false
set_option linter.all false
set_option maxRecDepth 100000
set_option maxHeartbeats 2000000
/-! formulas in the heap, rules that lacked, promises of the program's defs -/
namespace Lm
open PySem PySem.Spec PyProof.Rows L2

/-! ### heaps -/
theorem sqT_same {K : PySem.W.Frag} {H H' : Hp} {a : Addr} {xs : List V} (e : Same H H') (h : SqT K H a xs) : SqT K H' a xs := by
  rcases h with (h | ⟨o, h⟩) | h
  · exact .inl (.inl (e _ _ h))
  · exact .inl (.inr ⟨o, e _ _ h⟩)
  · exact .inr h
theorem same_new {H : Hp} {p : Addr} (h : H p = none) (o : HO) : Same H (upd H p o) := fun b u q => by rw [upd_ne (ne_of_none q h)]; exact q
theorem same_upd {H1 H : Hp} {D : Addr} {o : HO} (e : Same H1 H) (n : H1 D = none) : Same H1 (upd H D o) := fun b u q => by
  rw [upd_ne (ne_of_none q n)]
  exact e b u q
/-- all but what stands at a is as it was -/
def But (a : Addr) (H H' : Hp) : Prop := ∀ b o, H b = some o → b ≠ a → H' b = some o
theorem But.refl (a : Addr) (H : Hp) : But a H H := fun _ _ h _ => h
theorem But.trans {a : Addr} {H H1 H2 : Hp} (x : But a H H1) (y : But a H1 H2) : But a H H2 := fun b o h n => y b o (x b o h n) n
theorem Same.but {H H' : Hp} (e : Same H H') (a : Addr) : But a H H' := fun b o h _ => e b o h
theorem But.upd (a : Addr) (H : Hp) (o : HO) : But a H (upd H a o) := fun b u h n => by rw [upd_ne n]; exact h
/-- the tuples stand -/
def Tk (K : PySem.W.Frag) (H H' : Hp) : Prop := ∀ b xs, SqT K H b xs → SqT K H' b xs
theorem Tk.of_same {K : PySem.W.Frag} {H H' : Hp} (e : Same H H') : Tk K H H' := fun _ _ h => sqT_same e h
theorem Tk.of_but {K : PySem.W.Frag} {H H' : Hp} {a : Addr} (e : But a H H') (h : (∃ xs, H a = some (.lst xs)) ∨ (∃ kvs, H a = some (.dK kvs)) ∨ H a = none) : Tk K H H' := fun b xs q => by
  have nt : ∀ ys, H a ≠ some (.tup ys) := fun ys z => by
    rcases h with ⟨x, h⟩ | ⟨x, h⟩ | h <;> (rw [h] at z; cases z)
  have nf : ∀ o ys, H a ≠ some (.frz o (.tup ys)) := fun o ys z => by
    rcases h with ⟨x, h⟩ | ⟨x, h⟩ | h <;> (rw [h] at z; cases z)
  rcases q with (q | ⟨o, q⟩) | q
  · exact .inl (.inl (e _ _ q fun z => nt xs (z ▸ q)))
  · exact .inl (.inr ⟨o, e _ _ q fun z => nf o xs (z ▸ q)⟩)
  · exact .inr q

/-! ### data in the heap -/
mutual
theorem dp_same {K : PySem.W.Frag} {H H' : Hp} (e : Same H H') : ∀ (d : PyData) (v : V), Dp K H v d → Dp K H' v d
  | .none, _, h => by cases h; exact .non
  | .bool b, _, h => by cases h; exact .bl b
  | .int i, _, h => by cases h; exact .int i
  | .str x, _, h => by cases h; exact .str x
  | .list ds, _, h => by
    cases h with
    | lst hs ha => exact .lst (e.seq hs) (dpAll_same e ds _ ha)
  | .tuple ds, _, h => by
    cases h with
    | tup hs ha => exact .tup (sqT_same e hs) (dpAll_same e ds _ ha)
  | .dict _, _, h => by cases h
theorem dpAll_same {K : PySem.W.Frag} {H H' : Hp} (e : Same H H') : ∀ (ds : List PyData) (vs : List V), DpAll K H vs ds → DpAll K H' vs ds
  | [], _, h => by cases h; exact .nil
  | d :: ds, _, h => by
    cases h with
    | cons h1 h2 => exact .cons (dp_same e d _ h1) (dpAll_same e ds _ h2)
end
theorem dpAll_len {K : PySem.W.Frag} {H : Hp} : ∀ {ds : List PyData} {vs : List V}, DpAll K H vs ds → vs.length = ds.length
  | [], _, h => by cases h; rfl
  | d :: ds, _, h => by
    cases h with
    | cons h1 h2 => rw [List.length_cons, List.length_cons, dpAll_len h2]
theorem dpAll_get {K : PySem.W.Frag} {H : Hp} : ∀ {ds : List PyData} {vs : List V} {i : Nat} {v : V}, DpAll K H vs ds → vs[i]? = some v → ∃ d, ds[i]? = some d ∧ Dp K H v d
  | [], _, i, v, h, e => by cases h; cases e
  | d :: ds, _, 0, v, h, e => by
    cases h with
    | cons h1 h2 => exact ⟨d, rfl, (Option.some.inj e) ▸ h1⟩
  | d :: ds, _, i + 1, v, h, e => by
    cases h with
    | cons h1 h2 => exact dpAll_get (i := i) h2 e
theorem dpAll_app {K : PySem.W.Frag} {H : Hp} : ∀ {ds es : List PyData} {vs ws : List V}, DpAll K H vs ds → DpAll K H ws es → DpAll K H (vs ++ ws) (ds ++ es)
  | [], _, _, _, h, k => by cases h; exact k
  | d :: ds, es, _, ws, h, k => by
    cases h with
    | cons h1 h2 => exact .cons h1 (dpAll_app h2 k)
theorem dpAll_ints {K : PySem.W.Frag} {H : Hp} : ∀ ns : List Int, DpAll K H (ns.map V.int) (ns.map PyData.int)
  | [] => .nil
  | n :: ns => .cons (.int n) (dpAll_ints ns)
/-! formulas -/
section
variable {K : PySem.W.Frag} {H H' : Hp} {v : V}
theorem dp_sg {i : Int} (h : Dp K H v (Fm.sg i).toD) : ∃ a, v = .ref a ∧ SqT K H a [.str ("sign" : Str), .int i] := by
  have h : Dp K H v (.tuple [.str ("sign" : Str), .int i]) := h
  cases h with
  | tup hs ha =>
    cases ha with
    | cons h1 h2 =>
      cases h1
      cases h2 with
      | cons h3 h4 =>
        cases h3
        cases h4
        exact ⟨_, rfl, hs⟩
theorem dp_no {f : Fm} (h : Dp K H v (Fm.no f).toD) : ∃ a x, v = .ref a ∧ SqT K H a [.str ("not" : Str), x] ∧ Dp K H x f.toD := by
  have h : Dp K H v (.tuple [.str ("not" : Str), f.toD]) := h
  cases h with
  | tup hs ha =>
    cases ha with
    | cons h1 h2 =>
      cases h1
      cases h2 with
      | cons h3 h4 =>
        cases h4
        exact ⟨_, _, rfl, hs, h3⟩
theorem dp_bi {w : Bw} {f g : Fm} (h : Dp K H v (Fm.bi w f g).toD) : ∃ a x y, v = .ref a ∧ SqT K H a [.str w.txt, x, y] ∧ Dp K H x f.toD ∧ Dp K H y g.toD := by
  have h : Dp K H v (.tuple [.str w.txt, f.toD, g.toD]) := h
  cases h with
  | tup hs ha =>
    cases ha with
    | cons h1 h2 =>
      cases h1
      cases h2 with
      | cons h3 h4 =>
        cases h4 with
        | cons h5 h6 =>
          cases h6
          exact ⟨_, _, _, rfl, hs, h3, h5⟩
theorem mk_sg {a : Addr} {i : Int} (h : SqT K H a [.str ("sign" : Str), .int i]) : Dp K H (.ref a) (Fm.sg i).toD := .tup h (.cons (.str _) (.cons (.int _) .nil))
theorem mk_no {a : Addr} {x : V} {f : Fm} (h : SqT K H a [.str ("not" : Str), x]) (hx : Dp K H x f.toD) : Dp K H (.ref a) (Fm.no f).toD := .tup h (.cons (.str _) (.cons hx .nil))
theorem mk_bi {a : Addr} {w : Bw} {x y : V} {f g : Fm} (h : SqT K H a [.str w.txt, x, y]) (hx : Dp K H x f.toD) (hy : Dp K H y g.toD) : Dp K H (.ref a) (Fm.bi w f g).toD := .tup h (.cons (.str _) (.cons hx (.cons hy .nil)))
/-- a formula stands while the tuples stand -/
theorem fm_keep (t : Tk K H H') : ∀ (f : Fm) (v : V), Dp K H v f.toD → Dp K H' v f.toD
  | .sg i, v, h => by
    obtain ⟨a, rfl, hs⟩ := dp_sg h
    exact mk_sg (t _ _ hs)
  | .no f, v, h => by
    obtain ⟨a, x, rfl, hs, hx⟩ := dp_no h
    exact mk_no (t _ _ hs) (fm_keep t f x hx)
  | .bi w f g, v, h => by
    obtain ⟨a, x, y, rfl, hs, hx, hy⟩ := dp_bi h
    exact mk_bi (t _ _ hs) (fm_keep t f x hx) (fm_keep t g y hy)
theorem fms_keep (t : Tk K H H') : ∀ (fs : List Fm) (vs : List V), DpAll K H vs (fs.map Fm.toD) → DpAll K H' vs (fs.map Fm.toD)
  | [], _, h => by cases h; exact .nil
  | f :: fs, _, h => by
    have h : DpAll K H _ (f.toD :: fs.map Fm.toD) := h
    cases h with
    | cons h1 h2 => exact .cons (fm_keep t f _ h1) (fms_keep t fs _ h2)
end

/-! ### what a thing is -/
def tyD : PyData → String
  | .none => "NoneType"
  | .bool _ => "bool"
  | .int _ => "int"
  | .str _ => "str"
  | .list _ => "list"
  | .tuple _ => "tuple"
  | .dict _ => "dict"
theorem tyx_of {K : PySem.W.Frag} {H : Hp} {v : V} {d : PyData} (h : Dp K H v d) : TyX K H v (.type (tyD d)) := by
  cases h with
  | non => exact .base .non
  | bl b => exact .base (.bl b)
  | int i => exact .base (.int i)
  | str x => exact .base (.str x)
  | lst hs _ =>
    rcases hs with (hs | ⟨o, hs⟩) | ⟨o, its, n, hk, hc, _⟩
    · exact .base (.lst hs)
    · exact .base (.frz hs)
    · exact .kList hk hc
  | tup hs _ =>
    rcases hs with (hs | ⟨o, hs⟩) | ⟨o, its, n, hk, hc, _⟩
    · exact .base (.tup hs)
    · exact .fTuple hs
    · exact .kTuple hk hc
def isIB : PyData → Bool
  | .int _ => true
  | .bool _ => true
  | _ => false
def isBl : PyData → Bool
  | .bool _ => true
  | _ => false
def isSt : PyData → Bool
  | .str _ => true
  | _ => false
def isTu : PyData → Bool
  | .tuple _ => true
  | _ => false
def isLi : PyData → Bool
  | .list _ => true
  | _ => false
theorem kit_int {K : PySem.W.Frag} {H : Hp} {v : V} {d : PyData} (h : Dp K H v d) : PySem.W.kitOne K (.type (tyD d)) (.type "int") = some (isIB d) := by
  cases h with
  | non => exact kit_ty (show kitB "NoneType" "int" = some false from by decide +kernel)
  | bl b => exact kit_ty (show kitB "bool" "int" = some true from by decide +kernel)
  | int i => exact kit_ty (show kitB "int" "int" = some true from by decide +kernel)
  | str x => exact kit_ty (show kitB "str" "int" = some false from by decide +kernel)
  | lst _ _ => exact kit_ty (show kitB "list" "int" = some false from by decide +kernel)
  | tup _ _ => exact kit_ty (show kitB "tuple" "int" = some false from by decide +kernel)
theorem kit_bool {K : PySem.W.Frag} {H : Hp} {v : V} {d : PyData} (h : Dp K H v d) : PySem.W.kitOne K (.type (tyD d)) (.type "bool") = some (isBl d) := by
  cases h with
  | non => exact kit_ty (show kitB "NoneType" "bool" = some false from by decide +kernel)
  | bl b => exact kit_ty (show kitB "bool" "bool" = some true from by decide +kernel)
  | int i => exact kit_ty (show kitB "int" "bool" = some false from by decide +kernel)
  | str x => exact kit_ty (show kitB "str" "bool" = some false from by decide +kernel)
  | lst _ _ => exact kit_ty (show kitB "list" "bool" = some false from by decide +kernel)
  | tup _ _ => exact kit_ty (show kitB "tuple" "bool" = some false from by decide +kernel)
theorem kit_str {K : PySem.W.Frag} {H : Hp} {v : V} {d : PyData} (h : Dp K H v d) : PySem.W.kitOne K (.type (tyD d)) (.type "str") = some (isSt d) := by
  cases h with
  | non => exact kit_ty (show kitB "NoneType" "str" = some false from by decide +kernel)
  | bl b => exact kit_ty (show kitB "bool" "str" = some false from by decide +kernel)
  | int i => exact kit_ty (show kitB "int" "str" = some false from by decide +kernel)
  | str x => exact kit_ty (show kitB "str" "str" = some true from by decide +kernel)
  | lst _ _ => exact kit_ty (show kitB "list" "str" = some false from by decide +kernel)
  | tup _ _ => exact kit_ty (show kitB "tuple" "str" = some false from by decide +kernel)
theorem kit_tuple {K : PySem.W.Frag} {H : Hp} {v : V} {d : PyData} (h : Dp K H v d) : PySem.W.kitOne K (.type (tyD d)) (.type "tuple") = some (isTu d) := by
  cases h with
  | non => exact kit_ty (show kitB "NoneType" "tuple" = some false from by decide +kernel)
  | bl b => exact kit_ty (show kitB "bool" "tuple" = some false from by decide +kernel)
  | int i => exact kit_ty (show kitB "int" "tuple" = some false from by decide +kernel)
  | str x => exact kit_ty (show kitB "str" "tuple" = some false from by decide +kernel)
  | lst _ _ => exact kit_ty (show kitB "list" "tuple" = some false from by decide +kernel)
  | tup _ _ => exact kit_ty (show kitB "tuple" "tuple" = some true from by decide +kernel)
theorem kit_list {K : PySem.W.Frag} {H : Hp} {v : V} {d : PyData} (h : Dp K H v d) : PySem.W.kitOne K (.type (tyD d)) (.type "list") = some (isLi d) := by
  cases h with
  | non => exact kit_ty (show kitB "NoneType" "list" = some false from by decide +kernel)
  | bl b => exact kit_ty (show kitB "bool" "list" = some false from by decide +kernel)
  | int i => exact kit_ty (show kitB "int" "list" = some false from by decide +kernel)
  | str x => exact kit_ty (show kitB "str" "list" = some false from by decide +kernel)
  | lst _ _ => exact kit_ty (show kitB "list" "list" = some true from by decide +kernel)
  | tup _ _ => exact kit_ty (show kitB "tuple" "list" = some false from by decide +kernel)

/-! ### rules that lacked -/
/-- list(d.values()) -/
def tListVals (te : TE) : TE := fun σ H Q => te σ H fun x H1 => ∃ (d : Addr) (kvs : List (Key × V)), x = .ref d ∧ H1 d = some (.dK kvs) ∧ ∀ p, H1 p = none → Q (.ref p) (upd H1 p (.lst (kvs.map (·.2))))
theorem kv_vals : ∀ {kvs : List (Key × V)} {vs : List (Key × Value)}, KV kvs vs → Vals (kvs.map (·.2)) (vs.map (·.2))
  | _, _, .nil => .nil
  | _, _, .cons h t => .cons h.2 (kv_vals t)
section
variable {X : Cx} {e : Expr} {te : TE} {p apos cpos pos : Pos}
theorem pe_listVals (hc : X.calm = true) (he : PE X e te) (hg : Gl X "list") (hm : X.mg "list" = none) (hv : bootBuiltins "list" = some (.type "list")) (hbase : attributeBase e "values" X.env (eval e X.env) = eval e X.env := by rfl) (hline : (apos.endLine == cpos.line) = true := by rfl)
    (hs : starEach [.Call (.Attribute e "values" apos) [] [] cpos] X.env = (false, eval (.Call (.Attribute e "values" apos) [] [] cpos) X.env) :: starEach [] X.env := by rfl) :
    PE X (.Call (.Name "list" p) [.Call (.Attribute e "values" apos) [] [] cpos] [] pos) (tListVals te) := by
  refine ⟨fun pins s σ H Q I hq => ?_⟩
  refine wpAny_Call_Name_kw (ld_blt I hg hm hv ?_)
  refine PyProof.Rows.callWith_type1 ?_ hs rfl
  rw [hs]
  show wpAny _ _ (spliced ((false, eval (.Call (.Attribute e "values" apos) [] [] cpos) X.env) :: backTo pos (starEach [] X.env))) _ _ s
  refine Calls.spliced_cons ?_
  refine wpAny_Call_method (T := "dict") (id := "dict.values") hbase rfl hline F.plainAttrs_dict F.slot_dict_values F.type_dict_values (thn (he.run pins s σ H _ I hq) fun u s1 ⟨x, H1, I1, rx, d, kvs, ex, hd, q⟩ => ?_)
  subst ex
  obtain rfl : u = Value.ref d := rx
  obtain ⟨hz, hs0, vs, kv, hdo⟩ := I1.hok d _ hd
  obtain ⟨ep, hat⟩ := hdo.dictAt
  have lk : kvs.length = vs.length := Paired.length kv
  have I2 : Inv X pins σ H1 { s1 with heap := s1.heap.push { cls := .type "dict_values", data := .fields #[.ref d] } } := I1.kept (t' := s1.toks) fun b ob q => Heap.get?_push_of_some _ q
  refine ⟨hdo.typeIs, hdo.mapOf.noDict, ?_⟩
  show wpAny _ _ (callWith cpos (.builtin "dict.values") [.ref d] [] []) _ X.xe s1
  refine method_meetsIn F.slot_dict_values F.entry_dict_values rfl (PySem.evalArgs_none ⟨rfl, hdo.typeIs, F.args_dict_values_1 _, _, meets_dict_values (mixKind X.prog X.w) d hs0, ⟨vs, hdo⟩, ?_⟩)
  refine Calls.spliced_nil ?_
  refine PySem.W.kdl_call (PySem.W.kdl_values (knd := mixKind X.prog X.w) (kvs := vs) (ep := ep) (d := d)) (I1.ok.hd hc) ⟨⟨_, Heap.get?_push_size _ rfl, rfl, rfl⟩, hat.push _⟩ (by omega) fun h' tk acc c hk hS hacc => ?_
  have e0 : acc.toList = vs.map (·.2) := PySem.W.kdl_vals_eq acc.toList (by rw [Array.length_toList]; exact hacc.1) fun j v ev => hacc.2 j v (by rw [← Array.getElem?_toList]; exact ev)
  have ob : ObjOk X.prog X.w (upd H1 (s1.heap.push { cls := .type "dict_values", data := .fields #[.ref d] }).objs.size (.lst (kvs.map (·.2)))) h' (s1.heap.push { cls := .type "dict_values", data := .fields #[.ref d] }).objs.size (.lst (kvs.map (·.2))) := by
    refine ⟨by rw [List.length_map]; omega, acc.toList, c, by rw [e0]; exact kv_vals kv, ?_⟩
    rw [Array.toArray_toList]
    exact hS
  exact ⟨.ref _, _, I2.laid (t' := tk) hk (Nat.le_refl _) ob, rfl, q _ (I2.hok.fresh (Nat.le_refl _))⟩
end
/-- a dict comprehension over a list that stays -/
theorem dc_list {K : PySem.W.Frag} {a : Addr} {xs : List V} {g : TG} {tt : TT} {tk tv : TE} {vs : List Nat} {σ : L2.St} {H1 : Hp} {D : Addr} {Qd : Hp → Prop} (Pv : Nat → Hp → Prop) (h0 : Pv 0 (upd H1 D (.dK []))) (hl : ∀ i H, i ≤ xs.length → Pv i H → SqL K H a xs)
    (hs : ∀ i x H, xs[i]? = some x → Pv i H → g x (wipe σ vs) H fun σ2 H2 => wipe σ2 vs = wipe σ vs ∧ tt σ2 H2 fun b H3 =>
      if b = true then tk σ2 H3 fun y H4 => tv σ2 H4 fun z H5 => ∃ kvs k, y = kV k ∧ H5 D = some (.dK kvs) ∧ kvs.length < sizeLine ∧ Pv (i + 1) (upd H5 D (.dK (putK kvs k z))) else Pv (i + 1) H3) (hd : ∀ H, Pv xs.length H → Qd H) :
    ∃ W : Nat → Nat → Hp → Prop, (∃ m, W 0 m (upd H1 D (.dK []))) ∧ ∀ i m H, W i m H →
      ((Itl K a).stop i H ∧ Qd H) ∨ ((Itl K a).go i H ∧ ∃ Nx : Hp → Prop, (∀ H', Nx H' → ∃ m', m' < m ∧ W (i + 1) m' H') ∧ ∀ x H', (Itl K a).yld i H x H' → g x (wipe σ vs) H' fun σ2 H2 => wipe σ2 vs = wipe σ vs ∧ tt σ2 H2 fun b H3 =>
        if b = true then tk σ2 H3 fun y H4 => tv σ2 H4 fun z H5 => ∃ kvs k, y = kV k ∧ H5 D = some (.dK kvs) ∧ kvs.length < sizeLine ∧ Nx (upd H5 D (.dK (putK kvs k z))) else Nx H3) := by
  refine ⟨fun i m H => m = xs.length - i ∧ i ≤ xs.length ∧ Pv i H, ⟨xs.length, by simp, Nat.zero_le _, h0⟩, ?_⟩
  rintro i m H ⟨rfl, hi, p⟩
  have q := hl i H hi p
  by_cases hlt : i < xs.length
  · refine .inr ⟨⟨xs, xs[i], q, by simp [hlt]⟩, Pv (i + 1), fun H' p' => ⟨xs.length - (i + 1), by omega, rfl, hlt, p'⟩, fun x H' y => ?_⟩
    obtain ⟨e, y⟩ := y
    subst e
    exact hs i x _ (y xs q) p
  · have e : i = xs.length := by omega
    subst e
    exact .inl ⟨⟨xs, q, Nat.le_refl _⟩, hd H p⟩
theorem wipe1 (σ : L2.St) (j : Nat) (x : Option V) : wipe ((wipe σ [j]).set j x) [j] = wipe σ [j] := by
  show (((σ.set j none).set j x).set j none) = σ.set j none
  rw [List.set_set, List.set_set]
/-- [e for x in t], t a tuple, where each item gives its value and nothing that stood is changed -/
theorem lc_map_tup {K : PySem.W.Frag} {a : Addr} {xs ys : List V} {te : TE} {j : Nat} {σ : L2.St} {H1 : Hp} {D : Addr} {Qd : Hp → Prop} (hx : SqT K H1 a xs) (hD : H1 D = none) (hl : ys.length = xs.length) (hz : ys.length ≤ sizeLine)
    (el : ∀ (i : Nat) (x y : V) (H' : Hp), xs[i]? = some x → ys[i]? = some y → Same H1 H' → ∀ Q : VK, (∀ H'', Same H' H'' → Q y H'') → te ((wipe σ [j]).set j (some x)) H' Q)
    (hd : ∀ H', Same H1 H' → H' D = some (.lst ys) → Qd H') :
    ∃ W : Nat → Nat → Hp → Prop, (∃ m, W 0 m (upd H1 D (.lst []))) ∧ ∀ i m H, W i m H →
      ((Itt K a).stop i H ∧ Qd H) ∨ ((Itt K a).go i H ∧ ∃ Nx : Hp → Prop, (∀ H', Nx H' → ∃ m', m' < m ∧ W (i + 1) m' H') ∧ ∀ x H', (Itt K a).yld i H x H' → gName j x (wipe σ [j]) H' fun σ2 H2 => wipe σ2 [j] = wipe σ [j] ∧ tYes σ2 H2 fun b H3 =>
        if b = true then te σ2 H3 fun y H4 => ∃ acc, H4 D = some (.lst acc) ∧ acc.length < sizeLine ∧ Nx (upd H4 D (.lst (acc ++ [y]))) else Nx H3) := by
  refine lc_tup (K := K) (a := a) (xs := xs) (fun i H => Same H1 H ∧ H D = some (.lst (ys.take i))) ⟨same_new hD _, by rw [upd_same]; rfl⟩ (fun i H _ p => sqT_same p.1 hx) (fun i x H hi p => ?_) (fun H p => ?_)
  · have hi2 : i < xs.length := (List.getElem?_eq_some_iff.mp hi).1
    have hy : ys[i]? = some ys[i] := List.getElem?_eq_getElem (by omega)
    refine ⟨wipe1 _ _ _, ?_⟩
    show te ((wipe σ [j]).set j (some x)) H _
    refine el i x _ H hi hy p.1 _ fun H'' e => ?_
    refine ⟨ys.take i, e _ _ p.2, by rw [List.length_take]; omega, same_upd (p.1.trans e) hD, ?_⟩
    rw [upd_same, List.take_succ, hy]
    rfl
  · obtain ⟨p1, p2⟩ := p
    rw [← hl, List.take_length] at p2
    exact hd H p1 p2
/-- .. a list -/
theorem lc_map_list {K : PySem.W.Frag} {a : Addr} {xs ys : List V} {te : TE} {j : Nat} {σ : L2.St} {H1 : Hp} {D : Addr} {Qd : Hp → Prop} (hx : SqL K H1 a xs) (hD : H1 D = none) (hl : ys.length = xs.length) (hz : ys.length ≤ sizeLine)
    (el : ∀ (i : Nat) (x y : V) (H' : Hp), xs[i]? = some x → ys[i]? = some y → Same H1 H' → ∀ Q : VK, (∀ H'', Same H' H'' → Q y H'') → te ((wipe σ [j]).set j (some x)) H' Q)
    (hd : ∀ H', Same H1 H' → H' D = some (.lst ys) → Qd H') :
    ∃ W : Nat → Nat → Hp → Prop, (∃ m, W 0 m (upd H1 D (.lst []))) ∧ ∀ i m H, W i m H →
      ((Itl K a).stop i H ∧ Qd H) ∨ ((Itl K a).go i H ∧ ∃ Nx : Hp → Prop, (∀ H', Nx H' → ∃ m', m' < m ∧ W (i + 1) m' H') ∧ ∀ x H', (Itl K a).yld i H x H' → gName j x (wipe σ [j]) H' fun σ2 H2 => wipe σ2 [j] = wipe σ [j] ∧ tYes σ2 H2 fun b H3 =>
        if b = true then te σ2 H3 fun y H4 => ∃ acc, H4 D = some (.lst acc) ∧ acc.length < sizeLine ∧ Nx (upd H4 D (.lst (acc ++ [y]))) else Nx H3) := by
  refine lc_list (K := K) (a := a) (xs := xs) (fun i H => Same H1 H ∧ H D = some (.lst (ys.take i))) ⟨same_new hD _, by rw [upd_same]; rfl⟩ (fun i H _ p => p.1.seq hx) (fun i x H hi p => ?_) (fun H p => ?_)
  · have hi2 : i < xs.length := (List.getElem?_eq_some_iff.mp hi).1
    have hy : ys[i]? = some ys[i] := List.getElem?_eq_getElem (by omega)
    refine ⟨wipe1 _ _ _, ?_⟩
    show te ((wipe σ [j]).set j (some x)) H _
    refine el i x _ H hi hy p.1 _ fun H'' e => ?_
    refine ⟨ys.take i, e _ _ p.2, by rw [List.length_take]; omega, same_upd (p.1.trans e) hD, ?_⟩
    rw [upd_same, List.take_succ, hy]
    rfl
  · obtain ⟨p1, p2⟩ := p
    rw [← hl, List.take_length] at p2
    exact hd H p1 p2
theorem sl1000 {n : Nat} (h : n ≤ 100000) : n ≤ sizeLine := Nat.le_trans h (by rw [sizeLine_eq]; decide)
theorem sl1001 {n : Nat} (h : n < 100000) : n < sizeLine := Nat.lt_of_lt_of_le h (by rw [sizeLine_eq]; decide)
theorem cut1 (x y : V) : cutV [x, y] (some 1) none = [y] := rfl
theorem cut2 (x y z : V) : cutV [x, y, z] (some 1) none = [y, z] := rfl
theorem cut1a (x : V) (xs : List V) : cutV (x :: xs) (some 1) none = xs := by
  unfold cutV
  have e1 : HT.sIx (x :: xs).length 0 (some 1) = 1 := by
    rw [show (some (1 : Int)) = some ((1 : Nat) : Int) from rfl, HT.sIx_nat, List.length_cons]
    omega
  have e2 : HT.sIx (x :: xs).length (x :: xs).length none = (x :: xs).length := rfl
  rw [e1, e2, List.length_cons, List.drop_succ_cons, List.drop_zero, Nat.add_sub_cancel, List.take_length]
theorem cutNot (x : V) (xs : List V) : ¬ (HT.sIx (x :: xs).length 0 (some 1) = 0 ∧ HT.sIx (x :: xs).length (x :: xs).length none = (x :: xs).length) := by
  intro z
  have e1 : HT.sIx (x :: xs).length 0 (some 1) = 1 := by
    rw [show (some (1 : Int)) = some ((1 : Nat) : Int) from rfl, HT.sIx_nat, List.length_cons]
    omega
  rw [e1] at z
  exact absurd z.1 (by decide)
end Lm
set_option Elab.async false
set_option linter.all false
set_option maxRecDepth 100000
set_option maxHeartbeats 2000000
namespace Lm
open PySem PySem.Spec PyProof.Rows L2
/-! ### what is a formula: the mirror of is_formula -/
def isNum : PyData → Bool
  | .int _ => true
  | _ => false
def isSg : PyData → Bool
  | .int i => decide (0 ≤ i) && decide (i ≤ 99)
  | _ => false
def arOf (x : Str) : Option Int :=
  if x = ("not" : Str) then some 1 else if x = ("and" : Str) then some 2 else if x = ("or" : Str) then some 2 else if x = ("then" : Str) then some 2 else none
def sgOf : List PyData → Bool
  | [d] => isSg d
  | _ => false
def isF : Nat → PyData → Bool
  | n + 1, .tuple (.str x :: ds) =>
    if x = ("sign" : Str) then sgOf ds
    else match arOf x with
      | none => false
      | some k => decide (((ds.length + 1 : Nat) : Int) = 1 + k) && (ds.map (isF n)).all id
  | _, _ => false
theorem isF_zero (d : PyData) : isF 0 d = false := by cases d <;> rfl
theorem isF_toD : ∀ (f : Fm) (n : Nat), f.good → f.dep ≤ n → isF n f.toD = true
  | .sg i, n, h, hd => by
    cases n with
    | zero => exact absurd hd (by show ¬ 1 ≤ 0; decide)
    | succ n =>
      show (if ("sign" : Str) = ("sign" : Str) then (decide (0 ≤ i) && decide (i ≤ 99)) else _) = true
      rw [if_pos rfl, decide_eq_true h.1, decide_eq_true h.2]
      rfl
  | .no f, n, h, hd => by
    cases n with
    | zero => exact absurd hd (by show ¬ f.dep + 1 ≤ 0; omega)
    | succ n =>
      have q := isF_toD f n h (by have hd : f.dep + 1 ≤ n + 1 := hd; omega)
      have e1 : ¬ ("not" : Str) = ("sign" : Str) := by decide +kernel
      have e2 : arOf ("not" : Str) = some 1 := by decide +kernel
      rw [Fm.toD_no, isF, if_neg e1, e2]
      simp [q]
  | .bi w f g, n, h, hd => by
    cases n with
    | zero => exact absurd hd (by show ¬ max f.dep g.dep + 1 ≤ 0; omega)
    | succ n =>
      have hd : max f.dep g.dep + 1 ≤ n + 1 := hd
      have q1 := isF_toD f n h.1 (by omega)
      have q2 := isF_toD g n h.2 (by omega)
      have e2 : arOf w.txt = some 2 := by cases w <;> decide +kernel
      rw [Fm.toD_bi, isF, if_neg (txt_sign w), e2]
      simp [q1, q2]

/-! ### promises -/
section
variable (K : PySem.W.Frag)
def spIsNum : Sp := fun vs H Q _ => ∃ v d, vs = [v] ∧ Dp K H v d ∧ Q (.bl (isNum d)) H
def spIsSign : Sp := fun vs H Q _ => ∃ v d, vs = [v] ∧ Dp K H v d ∧ Q (.bl (isSg d)) H
def spIsF (n : Nat) : Sp := fun vs H Q _ => ∃ (v : V) (d : PyData) (k : Int), vs = [v, .int k] ∧ Dp K H v d ∧ 0 ≤ k ∧ k < (n : Int) ∧ ∀ H', Same H H' → Q (.bl (isF k.toNat d)) H'
def spIsFormula : Sp := fun vs H Q _ => ∃ v d, vs = [v] ∧ Dp K H v d ∧ ∀ H', Same H H' → Q (.bl (isF 12 d)) H'
/-- where nothing is refused -/
def spRefuse0 : Sp := fun vs H Q _ => ∃ v d, vs = [v] ∧ Dp K H v d ∧ isF 12 d = true ∧ ∀ H', Same H H' → Q .non H'
def spInner : Sp := fun vs H Q _ => ∃ (v : V) (f : Fm), vs = [v] ∧ Dp K H v f.toD ∧ ∀ (r : Addr) (H' : Hp) (ys : List V), Same H H' → SqT K H' r ys → DpAll K H' ys (f.kids.map Fm.toD) → Q (.ref r) H'
def spSpelled (n : Nat) : Sp := fun vs H Q _ => ∃ (v : V) (f : Fm), vs = [v] ∧ Dp K H v f.toD ∧ f.good ∧ f.dep ≤ 12 ∧ f.dep < n ∧ ∀ H', Same H H' → Q (.str (spS f)) H'
/-- the dict of the parts found -/
def Found (H : Hp) (kvs : List (Key × V)) (fs : List Fm) : Prop := Paired (fun (p : Key × V) (f : Fm) => p.1 = Sum.inr (spS f) ∧ Dp K H p.2 f.toD) kvs fs
def spFind (n : Nat) : Sp := fun vs H Q _ => ∃ (v : V) (f : Fm) (a : Addr) (kvs : List (Key × V)) (fs : List Fm), vs = [v, .ref a] ∧ Dp K H v f.toD ∧ f.good ∧ f.dep ≤ 12 ∧ f.dep < n ∧
  H a = some (.dK kvs) ∧ Found K H kvs fs ∧ (∀ g ∈ fs, g.good) ∧ fs.length + f.size ≤ 10000 ∧
  ∀ (H' : Hp) (kvs' : List (Key × V)), But a H H' → H' a = some (.dK kvs') → Found K H' kvs' (findP f fs) → Q .non H'
def spParts : Sp := fun vs H Q _ => ∃ (v : V) (f : Fm), vs = [v] ∧ Dp K H v f.toD ∧ f.good ∧ f.dep ≤ 12 ∧
  ∀ (r : Addr) (H' : Hp) (ys : List V), Same H H' → H' r = some (.lst ys) → DpAll K H' ys ((findP f []).map Fm.toD) → Q (.ref r) H'
def spIsTrue (n : Nat) : Sp := fun vs H Q _ => ∃ (v : V) (f : Fm) (a : Addr) (kvs : List (Key × V)) (S : Int → Bool), vs = [v, .ref a] ∧ Dp K H v f.toD ∧ f.dep < n ∧ H a = some (.dK kvs) ∧ (∀ i : Int, (valV kvs (Sum.inl i)).isSome = S i) ∧
  ∀ H', Same H H' → Q (.bl (f.tr S)) H'
def spTruth : Sp := fun vs H Q _ => ∃ (v : V) (f : Fm) (a : Addr) (ns : List Int), vs = [v, .ref a] ∧ Dp K H v f.toD ∧ f.good ∧ f.dep ≤ 12 ∧ SqL K H a (ns.map V.int) ∧ ns.length ≤ 1000 ∧
  ∀ H', Same H H' → Q (.bl (f.tr fun i => decide (i ∈ ns))) H'
end
section
variable {K : PySem.W.Frag} {H H' : Hp}
theorem found_keep (t : Tk K H H') : ∀ {kvs : List (Key × V)} {fs : List Fm}, Found K H kvs fs → Found K H' kvs fs
  | _, _, .nil => .nil
  | _, _, .cons h r => .cons ⟨h.1, fm_keep t _ _ h.2⟩ (found_keep t r)
theorem found_len {kvs : List (Key × V)} {fs : List Fm} (h : Found K H kvs fs) : kvs.length = fs.length := Paired.length h
theorem found_app : ∀ {kvs ks : List (Key × V)} {fs gs : List Fm}, Found K H kvs fs → Found K H ks gs → Found K H (kvs ++ ks) (fs ++ gs)
  | _, _, _, _, .nil, k => k
  | _, _, _, _, .cons h r, k => .cons h (found_app r k)
theorem found_at {f : Fm} (hf : f.good) : ∀ {kvs : List (Key × V)} {fs : List Fm}, Found K H kvs fs → (∀ g ∈ fs, g.good) → (valV kvs (Sum.inr (spS f))).isSome = decide (f ∈ fs)
  | _, _, .nil, _ => rfl
  | p :: ks, g :: gs, .cons h r, hg => by
    have ih := found_at hf r fun x hx => hg x (List.mem_cons_of_mem _ hx)
    by_cases e : g = f
    · subst e
      rw [valV_pos h.1, decide_eq_true (List.mem_cons_self)]
      rfl
    · have ne : ¬ p.1 = Sum.inr (spS f) := fun z => e (spS_inj (hg g List.mem_cons_self) hf (Sum.inr.inj (h.1.symm.trans z)))
      rw [valV_neg ne, ih]
      by_cases m : f ∈ gs
      · rw [decide_eq_true m, decide_eq_true (List.mem_cons_of_mem _ m)]
      · rw [decide_eq_false m, decide_eq_false]
        intro z
        rcases List.mem_cons.mp z with z | z
        · exact e z.symm
        · exact m z
theorem found_vals : ∀ {kvs : List (Key × V)} {fs : List Fm}, Found K H kvs fs → DpAll K H (kvs.map (·.2)) (fs.map Fm.toD)
  | _, _, .nil => .nil
  | _, _, .cons h r => .cons h.2 (found_vals r)
end
theorem dp_kids {K : PySem.W.Frag} {H : Hp} {v : V} {f : Fm} (h : Dp K H v f.toD) : ∃ a w xs, v = .ref a ∧ SqT K H a (w :: xs) ∧ (match f with | .sg i => w = .str ("sign" : Str) ∧ xs = [.int i] | .no g => w = .str ("not" : Str) ∧ DpAll K H xs [g.toD] | .bi b g k => w = .str b.txt ∧ DpAll K H xs [g.toD, k.toD]) := by
  cases f with
  | sg i =>
    obtain ⟨a, rfl, hs⟩ := dp_sg h
    exact ⟨a, _, _, rfl, hs, rfl, rfl⟩
  | no g =>
    obtain ⟨a, x, rfl, hs, hx⟩ := dp_no h
    exact ⟨a, _, _, rfl, hs, rfl, .cons hx .nil⟩
  | bi b g k =>
    obtain ⟨a, x, y, rfl, hs, hx, hy⟩ := dp_bi h
    exact ⟨a, _, _, rfl, hs, rfl, .cons hx (.cons hy .nil)⟩
/-- the module's dict of words -/
structure ManyD (K : PySem.W.Frag) (w : World) (d : Addr) (es : Array DictEntry) (n : Nat) : Prop where
  kd : KDict K w d es n
  nt : ∃ t, PySem.W.nsIn K d "not" = some (some (.int 1 t))
  an : ∃ t, PySem.W.nsIn K d "and" = some (some (.int 2 t))
  o_ : ∃ t, PySem.W.nsIn K d "or" = some (some (.int 2 t))
  th : ∃ t, PySem.W.nsIn K d "then" = some (some (.int 2 t))
  no : ∀ x : Str, arOf x = none → PySem.W.nsIn K d x = some none
theorem ManyD.get {K : PySem.W.Frag} {w : World} {d : Addr} {es : Array DictEntry} {n : Nat} (D : ManyD K w d es n) {x : Str} {k : Int} (h : arOf x = some k) : ∃ t, PySem.W.nsIn K d x = some (some (.int k t)) := by
  unfold arOf at h
  split at h
  · rename_i e; cases h; rw [e]; exact D.nt
  · split at h
    · rename_i e; cases h; rw [e]; exact D.an
    · split at h
      · rename_i e; cases h; rw [e]; exact D.o_
      · split at h
        · rename_i e; cases h; rw [e]; exact D.th
        · cases h
theorem ManyD.is {K : PySem.W.Frag} {w : World} {d : Addr} {es : Array DictEntry} {n : Nat} (D : ManyD K w d es n) (x : Str) : ∃ r, PySem.W.nsIn K d x = some r ∧ r.isSome = (arOf x).isSome := by
  cases e : arOf x with
  | none => exact ⟨none, D.no x e, rfl⟩
  | some k =>
    obtain ⟨t, q⟩ := D.get e
    exact ⟨_, q, rfl⟩
end Lm
set_option Elab.async false
set_option linter.all false
set_option maxRecDepth 100000
set_option maxHeartbeats 2000000
/-! any(list) within an except suite; a lambda called in a try whose error's context is known -/
namespace Lm
open PySem PySem.Spec PyProof.Rows L2
section
variable {prog : Program} {w : World} {A : Around} {E : Value → Shared → Prop} {s : Shared}
/-- a list's iterator comes to its end while an exception is handled -/
theorem list_over_hot {it l xh : Addr} {i : Nat} {ws : Array Value} {Q : Option Value → Shared → Prop} (hot : HotX.HotAt A xh s.heap) (st : s.heap.IsListIter it l i) (sl : s.heap.IsList l ws) (gone : ws[i]? = none) (ne : xh ≠ it)
    (q : ∀ h', Heap.ExtBut it s.heap h' → Q none { s with heap := h' }) : wpAny (model prog w) A (pyNext (.ref it)) Q E s := by
  obtain ⟨oi, gi, ci, di⟩ := id st
  obtain ⟨ol, gl, _, nl, dl⟩ := sl
  obtain ⟨hh, ox, fx, gx, dx, cx⟩ := hot
  have look : ((it : Addr) ≠ xh) := fun z => ne z.symm
  unfold pyNext
  apply wpAny_bind
  apply wpAny_attempt
  refine wpAny_callSpecial?_slot (name := Str.ofString "__next__") st.typeIs slot_listiter_next ?_
  refine wpAny_call_entry slot_listiter_next st.typeIs entry_listiter_next ?_ (args_listiter_next _)
  show wpAny _ _ (field (.ref it) 0 >>= _) _ _ s
  apply wpAny_bind
  refine wpAny_field gi di (x := .ref l) rfl ?_
  show wpAny _ _ (if (Value.ref l == Value.none) = true then _ else _) _ _ s
  rw [if_neg (fun z : (Value.ref l == Value.none) = true => Bool.false_ne_true z)]
  show wpAny _ _ (field (.ref it) 1 >>= _) _ _ s
  apply wpAny_bind
  refine wpAny_field gi di (x := .int i 0) rfl ?_
  show wpAny _ _ (seqItems? (.ref l) >>= _) _ _ s
  apply wpAny_bind
  refine wpAny_seqItems gl dl ?_
  simp only [Int.toNat_natCast, gone]
  apply wpAny_bind
  apply wpAny_rule
  apply wpAny_bind
  refine wpAny_setField gi di (by simp) ?_
  show wpAny _ _ (newExc (.type "StopIteration") [] >>= _) _ _ _
  apply wpAny_bind
  simp only [newExc, newTuple]
  apply wpAny_bind
  refine wpAny_newObj_type ?_ (by size_fits)
  refine wpAny_bind (m := firstArgMember _ _) ?_
  refine wpAny_of_eq (a := Value.none) (by first | rfl | (simp only [firstArgMember]; rfl)) ?_
  refine wpAny_newObj_type ?_ (by size_fits)
  have kept : ∀ {h0 : Heap}, h0.get? xh = some ox → ∀ o1 o2, ((h0.push o1).push o2).get? xh = some ox := fun g o1 o2 => Heap.get?_push_of_some _ (Heap.get?_push_of_some _ g)
  have gx1 : (s.heap.update it (Obj.mapFields (·.setIfInBounds 0 Value.none))).get? xh = some ox := (Heap.get?_update_other _ _ look).trans gx
  refine HotX.raiseNew_hot (x1 := xh) ⟨hh, ox, fx, kept gx1 _ _, dx, cx⟩ ?_ (Heap.get?_push_size _ rfl) rfl (by first | (simp; done) | (simp; omega)) ?_
  · exact Nat.ne_of_lt (Heap.lt_size (Heap.get?_push_of_some _ gx1))
  apply wpAny_bind
  refine wpAny_isInstance (T := "StopIteration") (b := true) ⟨_, Heap.get?_update_self _ (Heap.get?_push_size _ rfl) rfl, rfl⟩ isSubtype_stop ?_
  refine wpAny_pure (q _ fun b o hb e => ?_)
  have e1 : (s.heap.update it (Obj.mapFields (·.setIfInBounds 0 Value.none))).get? b = some o := (Heap.get?_update_other _ _ (Ne.symm hb)).trans e
  have e2 := Heap.get?_push_of_some (h := s.heap.update it (Obj.mapFields (·.setIfInBounds 0 Value.none))) { cls := .type "tuple", data := .seq (#[] : Array Value) } e1
  first
    | exact (Heap.get?_update_other _ _ (Nat.ne_of_gt (Heap.lt_size e2))).trans (Heap.get?_push_of_some _ e2)
    | (rw [Heap.get?_update_other _ _ (Nat.ne_of_gt (Heap.lt_size (Heap.get?_push_of_some _ e1)))]; exact Heap.get?_push_of_some _ (Heap.get?_push_of_some _ e1))
theorem walks_hot {xh : Addr} (hh : A.handled = some (.ref xh)) (it l : Addr) (n1 : l ≠ it) (n2 : xh ≠ it) (ws : Array Value) :
    Walks prog w A it [it, l, xh] [it] ws.size (fun i v => ws[i]? = some v)
      (fun i h => (h.IsListIter it l i ∧ h.IsList l ws) ∧ ∃ (o : Obj) (fs : Array Value), h.get? xh = some o ∧ o.data = .fields fs ∧ fs[2]? = some .none) where
  sub := fun b hb => by
    rw [List.mem_singleton.mp hb]
    exact List.mem_cons_self
  frame := fun i h h' st k => by
    obtain ⟨⟨a, b⟩, o, fs, c, d⟩ := st
    exact ⟨⟨a.at fun u e => k it (by simp) u e, b.at fun u e => k l (by simp) u e⟩, o, fs, k xh (by simp) o c, d⟩
  item := fun i s Q E hi st q => by
    obtain ⟨⟨a, b⟩, o, fs, c, d⟩ := st
    have hv : ws[i]? = some ws[i] := by simp [hi]
    refine wpAny_pyNext_list_item a b hv fun h' a' sb => q _ h' s.toks hv ⟨⟨a', b.extBut sb.extBut n1⟩, o, fs, (sb.2 xh n2).trans c, d⟩ fun y u hy e => ?_
    exact sb.extBut y u (fun z => hy (List.mem_singleton.mpr z)) e
  done := fun s Q E st q => by
    obtain ⟨⟨a, b⟩, o, fs, c, d⟩ := st
    exact list_over_hot ⟨hh, o, fs, c, d⟩ a b (by simp) n2 fun h' x => q h' s.toks fun y u hy e => x y u (fun z => hy (List.mem_singleton.mpr z)) e
  self := fun i s Q E st q => wpAny_pyIter_listiter st.1.1 q
end
/-- any(xs), xs bools, within the suite of an except -/
theorem any_hot {X : Cx} (c : L2H.HotC X) : CallR X (.builtin "any") (rAny X.K) := by
  intro pins s σ H vs us Q I r h
  obtain ⟨a, bs, rfl, ha, q⟩ := h
  obtain ⟨its, rv, pl, _⟩ := I.list ha
  obtain ⟨p, ⟨hh, fs, e1, e2⟩, hp⟩ := c
  have gp : s.heap.get? p.1 = some p.2 := (I.pin p (List.mem_append_left _ hp)).1
  have np : p.1 ≠ s.heap.objs.size := Nat.ne_of_lt (Heap.lt_size gp)
  rw [Vals.ref1 r]
  have hb := rv.bls
  refine call_any_walk (iter_any pl.isList fun s₂ e st ne => ?_)
  subst e
  refine ⟨_, _, _, _, _, _, _, rfl, walks_hot (A := X.A.in1) hh _ a ne np its.toArray, ⟨st, p.2, fs, Heap.get?_push_of_some _ gp, e1, e2⟩, truth_bools hb, fun h' tk k => ?_⟩
  refine ⟨.bl _, H, I.kept fun b o e => k b o (fun z => ?_) (Heap.get?_push_of_some _ e), ?_, q⟩
  · have z' : b = s.heap.objs.size := List.mem_singleton.mp z
    rw [z'] at e
    exact Nat.lt_irrefl _ (Heap.lt_size e)
  · show Value.bool _ = Value.bool _
    rw [← L2.any_range, hb, List.size_toArray, List.length_map]
end Lm
set_option Elab.async false
set_option linter.all false
set_option maxRecDepth 100000
set_option maxHeartbeats 2000000
namespace Lm
open PySem PySem.Spec PyProof.Rows L2
def top (i : Nat) : Stmt := PySem.Challenge.pw_lemmaless_k02_what_is_no_formula.main.body.getD i (.Pass ⟨0, 0, 0, 0⟩)
abbrev sIsNum : Stmt := top 10
abbrev sIsFormula : Stmt := top 11
abbrev sIsF : Stmt := top 12
abbrev sIsSign : Stmt := top 13
abbrev sRefuse : Stmt := top 14
abbrev sInner : Stmt := top 15
abbrev sSpelled : Stmt := top 16
abbrev sParts : Stmt := top 17
abbrev sFind : Stmt := top 18
abbrev sTruth : Stmt := top 19
abbrev sIsTrue : Stmt := top 20
abbrev sCell : Stmt := top 22
abbrev sThings : Stmt := top 23
abbrev sGood : Stmt := top 24
abbrev sAround : Stmt := top 25
abbrev sRefused : Stmt := top 26
abbrev sLaw : Stmt := top 27
end Lm
set_option Elab.async false
set_option linter.all false
set_option maxRecDepth 100000
set_option maxHeartbeats 2000000
namespace Lm
open PySem PySem.Spec PyProof.Rows L2
/-- a def of the module that keeps a promise, callable by its name -/
def Has (P : Program) (w : World) (K : PySem.W.Frag) (mg : Str → Option Value) (base : Heap) (k : Nat) (x : Str) (ps : List Str) (sp : Sp) : Prop :=
  ∃ f fd, FnOk P w K mg base CX0 k f fd ps sp ∧ Binds K fd ps [] ∧ mg x = some (.ref f) ∧ PySem.W.keepIn K (.ref f) = true
theorem pe_callH {X : Cx} {k : Nat} {x : Str} {ps : List Str} {sp : Sp} {p pos : Pos} {e : Expr} {es : List Expr} {t : TA} (h : Has X.prog X.w X.K X.mg X.base k x ps sp) (hr : Room k X.A) (hg : Gl X x) (ha : PA X (e :: es) t) (hdb : (x == ("__debug__" : Str)) = false := by decide)
    (he : starEach (e :: es) X.env = (false, eval e X.env) :: starEach es X.env := by rfl) (hpl : (backTo pos (starEach es X.env)).any (·.1) = false := by rfl) : PE X (.Call (.Name x p) (e :: es) [] pos) (tCall sp [] E0 t) := by
  obtain ⟨f, fd, F, b, m, kp⟩ := h
  exact pe_call F hr hg m kp b .nil pass0 ha hdb he hpl
/-- how a def of the text stands behind the top -/
structure Df (K : PySem.W.Frag) (mg : Str → Option Value) (x : Str) (st : Stmt) (ps : List Str) (f : Addr) (fd : FuncData) : Prop where
  fn : Fun K x x st f fd
  bd : Binds K fd ps []
  mg_ : mg x = some (.ref f)
theorem Df.has {P : Program} {w : World} {K : PySem.W.Frag} {mg : Str → Option Value} {base : Heap} {k : Nat} {x : Str} {st : Stmt} {ps : List Str} {f : Addr} {fd : FuncData} {sp : Sp} (D : Df K mg x st ps f fd) (F : FnOk P w K mg base CX0 k f fd ps sp) : Has P w K mg base k x ps sp := ⟨f, fd, F, D.bd, D.mg_, D.fn.kp⟩
/-- the built-in names -/
structure Blt (mg : Str → Option Value) : Prop where
  isinstance : mg "isinstance" = none
  int : mg "int" = none
  bool : mg "bool" = none
  tuple : mg "tuple" = none
  str : mg "str" = none
  list : mg "list" = none
  len : mg "len" = none
  all : mg "all" = none
theorem bt_isinstance : bootBuiltins "isinstance" = some (.builtin "isinstance") := by first | exact PySem.boot_isinstance | decide +kernel
theorem bt_int : bootBuiltins "int" = some (.type "int") := by first | exact PyProof.Rows.boot_int | decide +kernel
theorem bt_bool : bootBuiltins "bool" = some (.type "bool") := by first | exact PyProof.Rows.boot_bool | decide +kernel
theorem bt_tuple : bootBuiltins "tuple" = some (.type "tuple") := by first | exact PyProof.Rows.boot_tuple | decide +kernel
theorem bt_str : bootBuiltins "str" = some (.type "str") := by first | exact PyProof.Rows.boot_str | decide +kernel
theorem bt_list : bootBuiltins "list" = some (.type "list") := by first | exact PyProof.Rows.boot_list | decide +kernel
theorem bt_all : bootBuiltins "all" = some (.builtin "all") := by first | exact PyProof.Rows.boot_all | decide +kernel
section
variable {P : Program} {w : World} {K : PySem.W.Frag} {mg : Str → Option Value} {base : Heap} {f : Addr} {fd : FuncData}
/-! ### is_number, _is_sign -/
theorem scIsNum : FnScope ["thing"] ["thing"] (defScope sIsNum) := ⟨rfl, rfl, rfl, by decide +kernel, rfl, by decide +kernel, by decide +kernel⟩
theorem ok_isNum (D : Df K mg "is_number" sIsNum ["thing"] f fd) (B : Blt mg) : FnOk P w K mg base CX0 1 f fd ["thing"] (spIsNum K) := by
  refine D.fn.ok scIsNum (fun vs H Q E h => ?_) (fun cdv A outer s H vs Q E hr h => ?_)
  · obtain ⟨v, d, rfl, _⟩ := h
    rfl
  obtain ⟨v, d, rfl, hd, q⟩ := h
  refine ⟨_, pss_one (ps_ret (pe_and (pe_callB call_isi (by rfl) B.isinstance bt_isinstance (pa_cons (pv 0) (pa_cons (pe_bltn (v := .ty "int") (by rfl) B.int bt_int rfl) pa_nil)))
    (pe_one (pe_not (pe_callB call_isi (by rfl) B.isinstance bt_isinstance (pa_cons (pv 0) (pa_cons (pe_bltn (v := .ty "bool") (by rfl) B.bool bt_bool rfl) pa_nil))))))), ?_⟩
  refine ⟨v, rfl, v, .ty "int", _, _, _, rfl, .ty "int", tyx_of hd, kit_int hd, isIB d, rfl, ?_⟩
  refine ite2 (fun c => ?_) (fun c => ?_)
  · refine ⟨v, rfl, v, .ty "bool", _, _, _, rfl, .ty "bool", tyx_of hd, kit_bool hd, isBl d, rfl, ?_⟩
    have e : (!isBl d) = isNum d := by cases d <;> first | rfl | exact (Bool.false_ne_true c).elim
    rw [e]
    exact q
  · have e : isNum d = false := by cases d <;> first | rfl | exact absurd rfl c
    rw [e] at q
    exact q
theorem scIsSign : FnScope ["thing"] ["thing"] (defScope sIsSign) := ⟨rfl, rfl, rfl, by decide +kernel, rfl, by decide +kernel, by decide +kernel⟩
theorem ok_isSign {t : Tok} (D : Df K mg "_is_sign" sIsSign ["thing"] f fd) (N : Has P w K mg base 1 "is_number" ["thing"] (spIsNum K)) (ms : mg "MOST_SIGN" = some (.int 99 t)) : FnOk P w K mg base CX0 2 f fd ["thing"] (spIsSign K) := by
  refine D.fn.ok scIsSign (fun vs H Q E h => ?_) (fun cdv A outer s H vs Q E hr h => ?_)
  · obtain ⟨v, d, rfl, _⟩ := h
    rfl
  obtain ⟨v, d, rfl, hd, q⟩ := h
  refine ⟨_, pss_one (ps_ret (pe_and (pe_callH N hr (by rfl) (pa_cons (pv 0) pa_nil)) (pe_one (pe_chain op_le op_le pe_int (pv 0) (pe_glob (v := .int 99) (by rfl) ms ⟨_, rfl⟩))))), ?_⟩
  refine ⟨v, rfl, v, d, rfl, hd, isNum d, rfl, ?_⟩
  refine ite2 (fun c => ?_) (fun c => ?_)
  · cases hd with
    | int i =>
      refine ⟨.int i, rfl, 0, i, rfl, rfl, _, rfl, ?_⟩
      refine ite2 (fun c1 => ?_) (fun c1 => ?_)
      · refine ⟨i, 99, rfl, rfl, ?_⟩
        have e : isSg (.int i) = decide (i ≤ 99) := by
          show (decide (0 ≤ i) && decide (i ≤ 99)) = _
          rw [c1, Bool.true_and]
        rw [e] at q
        exact q
      · have e : isSg (.int i) = false := by
          show (decide (0 ≤ i) && decide (i ≤ 99)) = _
          rw [Bool.eq_false_iff.mpr c1, Bool.false_and]
        rw [e] at q
        exact q
    | _ => exact (Bool.false_ne_true c).elim
  · have e : isSg d = false := by cases d <;> first | rfl | exact absurd rfl c
    rw [e] at q
    exact q
end
end Lm
set_option Elab.async false
set_option linter.all false
set_option maxRecDepth 100000
set_option maxHeartbeats 2000000
namespace Lm
open PySem PySem.Spec PyProof.Rows L2
theorem at0 (x : V) (xs : List V) : atI (x :: xs) 0 = some x := atI_nat (j := 0) rfl
theorem at1 (x y : V) (xs : List V) : atI (x :: y :: xs) 1 = some y := atI_nat (j := 1) rfl
section
variable {P : Program} {w : World} {K : PySem.W.Frag} {mg : Str → Option Value} {base : Heap} {f : Addr} {fd : FuncData}
/-! ### _is_formula_of -/
theorem scIsF : FnScope ["thing", "deep", "word", "inner"] ["thing", "deep"] (defScope sIsF) := ⟨rfl, rfl, rfl, by decide +kernel, rfl, by decide +kernel, by decide +kernel⟩
theorem ok_isF {n : Nat} {dd : Addr} {es : Array DictEntry} {m : Nat} (D : Df K mg "_is_formula_of" sIsF ["thing", "deep"] f fd) (B : Blt mg) (G : Has P w K mg base (n + 2) "_is_formula_of" ["thing", "deep"] (spIsF K n))
    (S : Has P w K mg base 2 "_is_sign" ["thing"] (spIsSign K)) (M : ManyD K w dd es m) (mM : mg "MANY_INNER" = some (.ref dd)) : FnOk P w K mg base CX0 (n + 3) f fd ["thing", "deep"] (spIsF K (n + 1)) := by
  refine D.fn.ok scIsF (fun vs H Q E h => ?_) (fun cdv A outer s H vs Q E hr h => ?_)
  · obtain ⟨v, d, k, rfl, _⟩ := h
    rfl
  obtain ⟨v, d, k, rfl, hd, h0, hk, q0⟩ := h
  have q : ∀ (b : Bool) (H' : Hp), Same H H' → isF k.toNat d = b → Q (.bl b) H' := fun b H' e h => h ▸ q0 H' e
  have hr2 : Room 2 (A.deeper (envOfC "_is_formula_of" (defScope sIsF) s.heap.objs.size f cdv)) := hr.mono (by omega)
  refine ⟨_, pss_cons (ps_if (PW.pt (pw_or (pt_cmpR op_eq (pv 1) pe_int (nomark _)) (pw_or (pt_not (pt_val (pe_callB call_isi (by rfl) B.isinstance bt_isinstance (pa_cons (pv 0) (pa_cons (pe_bltn (v := .ty "tuple") (by rfl) B.tuple bt_tuple rfl) pa_nil)))))
      (pw_or1 (pt_cmpR op_eq (pe_callB call_len_seq (by rfl) B.len PySem.boot_len (pa_cons (pv 0) pa_nil)) pe_int (nomark _)))))) (pss_one (ps_ret pe_bl)) pss_nil)
    (pss_cons (ps_set (i := 2) scIsF.nd rfl (.inl rfl) (pe_ix ix_tup (pv 0) pe_int (fun _ _ => rfl)))
    (pss_cons (ps_if (pt_not (pt_val (pe_callB call_isi (by rfl) B.isinstance bt_isinstance (pa_cons (pv 2) (pa_cons (pe_bltn (v := .ty "str") (by rfl) B.str bt_str rfl) pa_nil))))) (pss_one (ps_ret pe_bl)) pss_nil)
    (pss_cons (ps_if (pt_cmpR op_eq (pv 2) pe_str (nomark _)) (pss_one (ps_ret (pe_and (pe_cmpR op_eq (pe_callB call_len_seq (by rfl) B.len PySem.boot_len (pa_cons (pv 0) pa_nil)) pe_int (nomark _))
      (pe_one (pe_callH S hr2 (by rfl) (pa_cons (pe_ix ix_tup (pv 0) pe_int (fun _ _ => rfl)) pa_nil)))))) pss_nil)
    (pss_cons (ps_if (PW.pt (pw_or (pt_cmpR (op_notIn_kd M.kd) (pv 2) (pe_glob (v := .ref dd) (by rfl) mM rfl) (by rfl))
      (pw_or1 (pt_cmpR op_ne (pe_callB call_len_seq (by rfl) B.len PySem.boot_len (pa_cons (pv 0) pa_nil)) (pe_op op_add pe_int (pe_ix ix_kdict (pe_glob (v := .ref dd) (by rfl) mM rfl) (pv 2) (fun _ _ => rfl))) (nomark _))))) (pss_one (ps_ret pe_bl)) pss_nil)
    (pss_one (ps_ret (pe_callB (cr_all rfl) (by rfl) B.all bt_all (pa_cons (pe_lc (own := [("inner", 3)]) (g := gName 3) (tt := tYes) rfl scIsF.nd (pi_tup (pe_slice sl_tup (pv 0) (po_some pe_int) po_none))
      (blkOk_by (N := ["thing", "deep", "word", "inner"]) (sc := defScope sIsF) (by decide +kernel)) (fun _ _ _ _ _ => pg_name (i := 3) scIsF.nd rfl (Or.inl rfl)) (fun _ _ _ _ _ => pts_nil)
      (fun _ _ _ _ _ => pe_callH G hr (by rfl) (pa_cons (pv 3) (pa_cons (pe_op op_sub (pv 1) pe_int) pa_nil)))) pa_nil)))))))), ?_⟩
  -- deep == 0
  refine ⟨.int k, rfl, rfl, _, rfl, ?_⟩
  refine ite2 (fun c => ?_) (fun c => ?_)
  · have e : k = 0 := V.int.inj (of_decide_eq_true c)
    refine q false H (Same.refl H) ?_
    rw [e]
    exact isF_zero d
  have hk0 : 0 < k := by
    rcases Int.lt_or_eq_of_le h0 with z | z
    · exact z
    · exact absurd (decide_eq_true (congrArg V.int z.symm)) c
  obtain ⟨j, hj⟩ : ∃ j : Nat, k.toNat = j + 1 := ⟨k.toNat - 1, by omega⟩
  -- a tuple
  refine ⟨v, rfl, v, .ty "tuple", _, _, _, rfl, .ty "tuple", tyx_of hd, kit_tuple hd, isTu d, rfl, ?_⟩
  refine ite2 (fun c1 => ?_) (fun c1 => ?_)
  · refine q false H (Same.refl H) ?_
    rw [hj]
    cases d <;> first | rfl | exact (Bool.false_ne_true c1).elim
  cases hd with
  | tup hs ha =>
    rename_i a xs ds
    have hlen := dpAll_len ha
    -- len(thing) == 0
    refine ⟨.ref a, rfl, a, xs, rfl, .inr hs, rfl, _, rfl, ?_⟩
    refine ite2 (fun c2 => ?_) (fun c2 => ?_)
    · refine q false H (Same.refl H) ?_
      have e : ((xs.length : Nat) : Int) = 0 := V.int.inj (of_decide_eq_true c2)
      have e2 : ds.length = 0 := by omega
      rw [hj, List.eq_nil_of_length_eq_zero e2]
      rfl
    cases ha with
    | nil => exact absurd (decide_eq_true rfl) c2
    | @cons wv ws d0 ds h1 h2 =>
      -- word = thing[0]
      refine ⟨.ref a, rfl, a, _, 0, wv, rfl, rfl, hs, at0 _ _, ?_⟩
      -- isinstance(word, str)
      refine ⟨wv, rfl, wv, .ty "str", _, _, _, rfl, .ty "str", tyx_of h1, kit_str h1, isSt d0, rfl, ?_⟩
      refine ite2 (fun c3 => ?_) (fun c3 => ?_)
      · refine q false H (Same.refl H) ?_
        rw [hj]
        cases d0 <;> first | rfl | exact (Bool.false_ne_true c3).elim
      cases h1 with
      | str x =>
        -- word == 'sign'
        refine ⟨.str x, rfl, rfl, _, rfl, ?_⟩
        refine ite2 (fun c4 => ?_) (fun c4 => ?_)
        · have ex : x = ("sign" : Str) := V.str.inj (of_decide_eq_true c4)
          have isf : isF k.toNat (.tuple (.str x :: ds)) = sgOf ds := by rw [hj, isF, if_pos ex]
          refine ⟨.ref a, rfl, a, _, rfl, .inr hs, rfl, _, rfl, ?_⟩
          refine ite2 (fun c5 => ?_) (fun c5 => ?_)
          · have e : (((V.str x :: ws).length : Nat) : Int) = 2 := V.int.inj (of_decide_eq_true c5)
            cases h2 with
            | nil => exact absurd e (by show ¬ ((1 : Nat) : Int) = 2; decide)
            | @cons y ws d1 ds k1 k2 =>
              cases k2 with
              | cons _ _ =>
                rw [List.length_cons, List.length_cons, List.length_cons] at e
                omega
              | nil =>
                refine ⟨.ref a, rfl, a, _, 1, y, rfl, rfl, hs, at1 _ _ _, y, d1, rfl, k1, ?_⟩
                exact q (isSg d1) H (Same.refl H) isf
          · refine q false H (Same.refl H) ?_
            rw [isf]
            cases h2 with
            | nil => rfl
            | @cons y ws d1 ds k1 k2 =>
              cases k2 with
              | cons _ _ => rfl
              | nil => exact absurd (decide_eq_true rfl) c5
        have ex : ¬ x = ("sign" : Str) := fun z => c4 (decide_eq_true (congrArg V.str z))
        have isf : isF k.toNat (.tuple (.str x :: ds)) = (match arOf x with | none => false | some k => decide (((ds.length + 1 : Nat) : Int) = 1 + k) && (ds.map (isF j)).all id) := by
          rw [hj, isF, if_neg ex]
          all_goals rfl
        -- word not in MANY_INNER
        obtain ⟨r, hr1, hr3⟩ := M.is x
        refine ⟨.str x, rfl, x, r, rfl, rfl, hr1, _, rfl, ?_⟩
        refine ite2 (fun c6 => ?_) (fun c6 => ?_)
        · refine q false H (Same.refl H) ?_
          rw [isf]
          cases e : arOf x with
          | none => rfl
          | some z =>
            rw [hr3, e] at c6
            exact (Bool.false_ne_true c6).elim
        cases e : arOf x with
        | none =>
          rw [hr3, e] at c6
          exact absurd rfl c6
        | some z =>
          obtain ⟨t, ht⟩ := M.get e
          refine ⟨.ref a, rfl, a, _, rfl, .inr hs, .str x, rfl, dd, x, .int z, rfl, rfl, ⟨es, m, .int z t, M.kd.at_, M.kd.lit, ht, ⟨t, rfl⟩⟩, 1, z, rfl, rfl, rfl, _, rfl, ?_⟩
          have hl2 : ws.length = ds.length := dpAll_len h2
          refine ite2 (fun c7 => ?_) (fun c7 => ?_)
          · refine q false H (Same.refl H) ?_
            have ne : ¬ ((ds.length + 1 : Nat) : Int) = 1 + z := fun zz => by
              have zz2 : (((V.str x :: ws).length : Nat) : Int) = 1 + z := by rw [List.length_cons, hl2]; exact zz
              rw [decide_eq_true (congrArg V.int zz2)] at c7
              exact Bool.false_ne_true c7
            rw [isf, e]
            show (decide (((ds.length + 1 : Nat) : Int) = 1 + z) && _) = false
            rw [decide_eq_false ne, Bool.false_and]
          · have eq2 : ((ds.length + 1 : Nat) : Int) = 1 + z := by
              by_cases zz : (((V.str x :: ws).length : Nat) : Int) = 1 + z
              · rw [List.length_cons, hl2] at zz
                exact zz
              · rw [decide_eq_false (fun y => zz (V.int.inj y))] at c7
                exact absurd rfl c7
            -- all([..])
            refine ⟨.ref a, rfl, 1, rfl, a, _, rfl, hs, cutNot _ _, fun p np => ⟨p, rfl, ⟨_, SqT.of upd_same⟩, fun L nL => ?_⟩⟩
            have hp : SqT K (upd H p (.tup (cutV (V.str x :: ws) (some 1) none))) p ws := SqT.of (by rw [upd_same, cut1a])
            have s1 : Same H (upd H p (.tup (cutV (V.str x :: ws) (some 1) none))) := same_new np _
            have lz : ws.length ≤ sizeLine := by
              have z1 : z ≤ 2 := by
                unfold arOf at e
                split at e
                · cases e; decide
                · split at e
                  · cases e; decide
                  · split at e
                    · cases e; decide
                    · split at e
                      · cases e; decide
                      · cases e
              refine sl1000 ?_
              omega
            refine lc_map_tup (K := K) (a := p) (xs := ws) (ys := ((ds.map (isF j)).map V.bl)) (j := 3) hp nL (by rw [List.length_map, List.length_map, hl2]) (by rw [List.length_map, List.length_map, ← hl2]; exact lz) (fun i y b H' hi hb e1 Q' q' => ?_) (fun H' e1 hL => ?_)
            · obtain ⟨di, hdi, hy⟩ := dpAll_get h2 hi
              have eb : b = .bl (isF j di) := by
                rw [List.getElem?_map, List.getElem?_map, hdi] at hb
                exact (Option.some.inj hb).symm
              refine ⟨y, rfl, .int k, rfl, k, 1, rfl, rfl, y, di, k - 1, rfl, dp_same (s1.trans e1) _ _ hy, by omega, by omega, fun H'' e2 => ?_⟩
              have ej : (k - 1).toNat = j := by omega
              rw [ej]
              rw [eb] at q'
              exact q' H'' e2
            · refine ⟨L, ds.map (isF j), rfl, SqL.of hL, ?_⟩
              refine q _ H' (s1.trans e1) ?_
              rw [isf, e]
              show (decide (((ds.length + 1 : Nat) : Int) = 1 + z) && _) = _
              rw [decide_eq_true eq2, Bool.true_and]
      | _ => exact absurd rfl c3
  | _ => exact absurd rfl c1
end
end Lm
set_option Elab.async false
set_option linter.all false
set_option maxRecDepth 100000
set_option maxHeartbeats 2000000
namespace Lm
open PySem PySem.Spec PyProof.Rows L2
theorem kid_get {K : PySem.W.Frag} {H : Hp} {ys : List V} {fs : List Fm} (h : DpAll K H ys (fs.map Fm.toD)) {i : Nat} {y : V} (e : ys[i]? = some y) : ∃ g, fs[i]? = some g ∧ Dp K H y g.toD := by
  obtain ⟨d, hd, hy⟩ := dpAll_get h e
  rw [List.getElem?_map] at hd
  cases q : fs[i]? with
  | none => rw [q] at hd; cases hd
  | some g =>
    rw [q] at hd
    exact ⟨g, rfl, (Option.some.inj hd) ▸ hy⟩
theorem kid_dep : ∀ {f g : Fm}, g ∈ f.kids → g.dep < f.dep
  | .sg _, g, h => nomatch h
  | .no f, g, h => by
    rw [List.mem_singleton.mp h]
    exact Nat.lt_succ_self _
  | .bi w f k, g, h => by
    show g.dep < max f.dep k.dep + 1
    rcases List.mem_cons.mp h with e | h
    · rw [e]; omega
    · rw [List.mem_singleton.mp h]; omega
theorem kid_good : ∀ {f g : Fm}, f.good → g ∈ f.kids → g.good
  | .sg _, g, _, h => nomatch h
  | .no f, g, hf, h => by
    rw [List.mem_singleton.mp h]
    exact hf
  | .bi w f k, g, hf, h => by
    rcases List.mem_cons.mp h with e | h
    · rw [e]; exact hf.1
    · rw [List.mem_singleton.mp h]; exact hf.2
theorem kids_len : ∀ f : Fm, f.kids.length ≤ 2
  | .sg _ => Nat.zero_le _
  | .no _ => (by decide : 1 ≤ 2)
  | .bi _ _ _ => Nat.le_refl 2
theorem log_small {i : Int} (h : 0 ≤ i ∧ i ≤ 99) : i.natAbs.log2 < 1920 := by
  have q : ∀ m : Fin 100, m.val.log2 < 1920 := by decide +kernel
  exact q ⟨i.natAbs, by omega⟩
theorem str_len (x y : Str) : (x ++ y).length = x.length + y.length := by
  rw [TL.len_tl, TL.tl_append, List.length_append, ← TL.len_tl, ← TL.len_tl]
section
variable {P : Program} {w : World} {K : PySem.W.Frag} {mg : Str → Option Value} {base : Heap} {f : Addr} {fd : FuncData}
theorem all_isF {dd : Addr} {es : Array DictEntry} {m : Nat} (D : Df K mg "_is_formula_of" sIsF ["thing", "deep"] f fd) (B : Blt mg)
    (S : Has P w K mg base 2 "_is_sign" ["thing"] (spIsSign K)) (M : ManyD K w dd es m) (mM : mg "MANY_INNER" = some (.ref dd)) : ∀ n : Nat, Has P w K mg base (n + 2) "_is_formula_of" ["thing", "deep"] (spIsF K n)
  | 0 => by
    have no : ∀ vs H Q E, ¬ spIsF K 0 vs H Q E := fun vs H Q E h => by
      obtain ⟨v, d, k, _, _, h1, h2, _⟩ := h
      omega
    exact D.has ⟨fun vs H Q E h => absurd h (no vs H Q E), fun A outer s H args us vs Q E _ _ _ _ h => absurd h (no vs H Q E)⟩
  | n + 1 => D.has (ok_isF D B (all_isF D B S M mM n) S M mM)
theorem scIsFormula : FnScope ["thing"] ["thing"] (defScope sIsFormula) := ⟨rfl, rfl, rfl, by decide +kernel, rfl, by decide +kernel, by decide +kernel⟩
theorem ok_isFormula {t : Tok} (D : Df K mg "is_formula" sIsFormula ["thing"] f fd) (G : Has P w K mg base 15 "_is_formula_of" ["thing", "deep"] (spIsF K 13)) (md : mg "MOST_DEEP" = some (.int 12 t)) : FnOk P w K mg base CX0 16 f fd ["thing"] (spIsFormula K) := by
  refine D.fn.ok scIsFormula (fun vs H Q E h => ?_) (fun cdv A outer s H vs Q E hr h => ?_)
  · obtain ⟨v, d, rfl, _⟩ := h
    rfl
  obtain ⟨v, d, rfl, hd, q⟩ := h
  refine ⟨_, pss_one (ps_ret (pe_callH G hr (by rfl) (pa_cons (pv 0) (pa_cons (pe_glob (v := .int 12) (by rfl) md ⟨_, rfl⟩) pa_nil)))), ?_⟩
  exact ⟨v, rfl, v, d, 12, rfl, hd, by decide, by decide, fun H' e => q H' e⟩
theorem scRefuse : FnScope ["thing"] ["thing"] (defScope sRefuse) := ⟨rfl, rfl, rfl, by decide +kernel, rfl, by decide +kernel, by decide +kernel⟩
theorem ok_refuse0 (D : Df K mg "refuse_no_formula" sRefuse ["thing"] f fd) (G : Has P w K mg base 16 "is_formula" ["thing"] (spIsFormula K)) : FnOk P w K mg base CX0 17 f fd ["thing"] (spRefuse0 K) := by
  refine D.fn.ok scRefuse (fun vs H Q E h => ?_) (fun cdv A outer s H vs Q E hr h => ?_)
  · obtain ⟨v, d, rfl, _⟩ := h
    rfl
  obtain ⟨v, d, rfl, hd, hf, q⟩ := h
  refine ⟨_, pss_one (ps_if (pt_not (pt_val (pe_callH G hr (by rfl) (pa_cons (pv 0) pa_nil)))) (pss_one ps_never) pss_nil), ?_⟩
  refine ⟨v, rfl, v, d, rfl, hd, fun H' e => ⟨isF 12 d, rfl, ?_⟩⟩
  rw [hf]
  exact iteF (q H' e)
/-! ### inner_formulas -/
theorem scInner : FnScope ["f"] ["f"] (defScope sInner) := ⟨rfl, rfl, rfl, by decide +kernel, rfl, by decide +kernel, by decide +kernel⟩
theorem ok_inner (D : Df K mg "inner_formulas" sInner ["f"] f fd) : FnOk P w K mg base CX0 1 f fd ["f"] (spInner K) := by
  refine D.fn.ok scInner (fun vs H Q E h => ?_) (fun cdv A outer s H vs Q E hr h => ?_)
  · obtain ⟨v, g, rfl, _⟩ := h
    rfl
  obtain ⟨v, g, rfl, hd, q⟩ := h
  refine ⟨_, pss_cons (ps_if (pt_cmpR op_eq (pe_ix ix_tup (pv 0) pe_int (fun _ _ => rfl)) pe_str (nomark _)) (pss_one (ps_ret (pe_tup pa_nil))) pss_nil)
    (pss_one (ps_ret (pe_slice sl_tup (pv 0) (po_some pe_int) po_none))), ?_⟩
  obtain ⟨a, x, xs, rfl, hs, hm⟩ := dp_kids hd
  cases g with
  | sg i =>
    obtain ⟨rfl, rfl⟩ := hm
    refine ⟨.ref a, rfl, a, _, 0, _, rfl, rfl, hs, at0 _ _, rfl, _, rfl, ?_⟩
    refine ite2 (fun c => ?_) (fun c => absurd (decide_eq_true rfl) c)
    refine ⟨Nat.zero_le _, fun p np => ?_⟩
    exact q p _ [] (same_new np _) (SqT.of upd_same) .nil
  | no g =>
    obtain ⟨rfl, hx⟩ := hm
    refine ⟨.ref a, rfl, a, _, 0, _, rfl, rfl, hs, at0 _ _, rfl, _, rfl, ?_⟩
    refine ite2 (fun c => ?_) (fun c => ?_)
    · exact absurd (V.str.inj (of_decide_eq_true c)) (by decide +kernel)
    refine ⟨.ref a, rfl, 1, rfl, a, _, rfl, hs, cutNot _ _, fun p np => ?_⟩
    exact q p _ xs (same_new np _) (SqT.of (by rw [upd_same, cut1a])) (dpAll_same (same_new np _) _ _ hx)
  | bi b g k =>
    obtain ⟨rfl, hx⟩ := hm
    refine ⟨.ref a, rfl, a, _, 0, _, rfl, rfl, hs, at0 _ _, rfl, _, rfl, ?_⟩
    refine ite2 (fun c => ?_) (fun c => ?_)
    · exact absurd (V.str.inj (of_decide_eq_true c)) (txt_sign b)
    refine ⟨.ref a, rfl, 1, rfl, a, _, rfl, hs, cutNot _ _, fun p np => ?_⟩
    exact q p _ xs (same_new np _) (SqT.of (by rw [upd_same, cut1a])) (dpAll_same (same_new np _) _ _ hx)
/-! ### spelled -/
theorem scSpelled : FnScope ["f", "inside", "inner"] ["f"] (defScope sSpelled) := ⟨rfl, rfl, rfl, by decide +kernel, rfl, by decide +kernel, by decide +kernel⟩
theorem len_le {x : Str} {n : Nat} (h : x.length ≤ n) (hn : n ≤ 100000) : x.length ≤ sizeLine := sl1000 (Nat.le_trans h hn)
theorem len_of (x : Str) : x.length = (TL.tl x).length := TL.len_tl x
theorem cs_not : ("not" : Str).length = 3 := by decide +kernel
theorem cs_open : ("(" : Str).length = 1 := by decide +kernel
theorem cs_close : (")" : Str).length = 1 := by decide +kernel
theorem cs_comma : ("," : Str).length = 1 := by decide +kernel
theorem cs_empty : (Str.empty).length = 0 := rfl
theorem cs_txt (b : Bw) : b.txt.length ≤ 4 := by cases b <;> decide +kernel
theorem join1 (x : Str) : Txt.join ("," : Str) [x] = x := by rw [TL.join_eq]; rfl
theorem join2 (x y : Str) : Txt.join ("," : Str) [x, y] = (x ++ ("," : Str)) ++ y := by rw [TL.join_eq]; rfl
theorem ok_spelled {n : Nat} (D : Df K mg "spelled" sSpelled ["f"] f fd) (B : Blt mg) (I : Has P w K mg base 1 "inner_formulas" ["f"] (spInner K)) (G : Has P w K mg base (n + 1) "spelled" ["f"] (spSpelled K n)) :
    FnOk P w K mg base CX0 (n + 2) f fd ["f"] (spSpelled K (n + 1)) := by
  refine D.fn.ok scSpelled (fun vs H Q E h => ?_) (fun cdv A outer s H vs Q E hr h => ?_)
  · obtain ⟨v, g, rfl, _⟩ := h
    rfl
  obtain ⟨v, g, rfl, hd, hg, h12, hn, q⟩ := h
  have hr1 : Room 1 (A.deeper (envOfC "spelled" (defScope sSpelled) s.heap.objs.size f cdv)) := hr.mono (by omega)
  refine ⟨_, pss_cons (ps_if (pt_cmpR op_eq (pe_ix ix_tup (pv 0) pe_int (fun _ _ => rfl)) pe_str (nomark _)) (pss_one (ps_ret (pe_callTy call_str_int (by rfl) B.str bt_str (pa_cons (pe_ix ix_tup (pv 0) pe_int (fun _ _ => rfl)) pa_nil)))) pss_nil)
    (pss_cons (ps_set (i := 1) scSpelled.nd rfl (.inl rfl) (pe_join pe_str (pe_lc (own := [("inner", 2)]) (g := gName 2) (tt := tYes) rfl scSpelled.nd (pi_tup (pe_callH I hr1 (by rfl) (pa_cons (pv 0) pa_nil)))
      (blkOk_by (N := ["f", "inside", "inner"]) (sc := defScope sSpelled) (by decide +kernel)) (fun _ _ _ _ _ => pg_name (i := 2) scSpelled.nd rfl (Or.inl rfl)) (fun _ _ _ _ _ => pts_nil)
      (fun _ _ _ _ _ => pe_callH G hr (by rfl) (pa_cons (pv 2) pa_nil)))))
    (pss_one (ps_ret (pe_joined (.cons (pe_fmt (pe_ix ix_tup (pv 0) pe_int (fun _ _ => rfl))) (.cons pe_str (.cons (pe_fmt (pv 1)) (.cons pe_str .nil)))))))), ?_⟩
  obtain ⟨a, x, xs, rfl, hs, hm⟩ := dp_kids hd
  have whole : (spS g).length ≤ 18500 := spS_len hg h12
  -- the way behind the test, for a formula that is no sign
  have go : ∀ (z : Str) (ys : List Str), z.length ≤ 4 → ys = g.kids.map spS → (((((Str.empty ++ z) ++ ("(" : Str)) ++ Txt.join ("," : Str) ys) ++ (")" : Str))) = spS g → (Txt.join ("," : Str) ys).length ≤ 18500 → SqT K H a (.str z :: xs) →
      (tSeq (tAsg (tM1 (fun x xs H Q => ∃ a p, ∃ ys : List Str, x = .str a ∧ xs = [.ref p] ∧ (SqL K H p (ys.map V.str) ∨ SqT K H p (ys.map V.str)) ∧ (ys.map (·.length)).sum + ys.length * a.length ≤ 16777216 ∧ Q (.str (Txt.join a ys)) H) (tC (.str ("," : Str)))
          (tLc (iTup K (tCall (spInner K) [] E0 (tCons (tVar 0) tNil))) (gName 2) tYes (tCall (spSpelled K n) [] E0 (tCons (tVar 2) tNil)) [2])) (gName 1))
        (tRet (fun σ H Q => tJs [tFmt (tOp (rIxT K) (tVar 0) (tC (.int 0))), tC (.str ("(" : Str)), tFmt (tVar 1), tC (.str (")" : Str))] Str.empty σ H fun out H1 => Q (.str out) H1)))
        { nx := fun _ H' => Q .non H', rt := Q } (L2.start ["f", "inside", "inner"] [.ref a]) H := by
    intro z ys hz hys hj hl hs
    refine ⟨⟨_, rfl⟩, .ref a, rfl, .ref a, g, rfl, hd, fun r H1 ks e1 hk hks => ⟨r, rfl, ⟨ks, hk⟩, fun L nL => ?_⟩⟩
    have hkl : ks.length = g.kids.length := by rw [dpAll_len hks, List.length_map]
    refine lc_map_tup (K := K) (a := r) (xs := ks) (ys := ys.map V.str) (j := 2) hk nL (by rw [List.length_map, hys, List.length_map, hkl]) (by rw [List.length_map, hys, List.length_map]; exact sl1000 (Nat.le_trans (kids_len g) (by decide))) (fun i y b H' hi hb e2 Q' q' => ?_) (fun H' e2 hL => ?_)
    · obtain ⟨k, hk1, hy⟩ := kid_get hks hi
      have mem : k ∈ g.kids := List.mem_of_getElem? hk1
      have eb : b = .str (spS k) := by
        rw [hys, List.getElem?_map, List.getElem?_map, hk1] at hb
        exact (Option.some.inj hb).symm
      have dl := kid_dep mem
      refine ⟨y, rfl, y, k, rfl, dp_same e2 _ _ hy, kid_good hg mem, by omega, by omega, fun H'' e3 => ?_⟩
      rw [← eb]
      exact q' H'' e3
    · have hs2 : SqT K H' a (.str z :: xs) := sqT_same (e1.trans e2) hs
      have sum : (ys.map (·.length)).sum + ys.length * ("," : Str).length ≤ 16777216 := by
        rw [hys]
        cases g with
        | sg _ =>
          show 0 + 0 * ("," : Str).length ≤ 16777216
          rw [Nat.zero_mul]
          decide
        | no k =>
          have w1 : (spS k).length ≤ 18500 := spS_len (f := k) hg (by have : k.dep + 1 ≤ 12 := h12; omega)
          show ((spS k).length + 0) + 1 * ("," : Str).length ≤ 16777216
          rw [cs_comma]
          omega
        | bi b k l =>
          have h12' : max k.dep l.dep + 1 ≤ 12 := h12
          have w1 : (spS k).length ≤ 18500 := spS_len (f := k) hg.1 (by omega)
          have w2 : (spS l).length ≤ 18500 := spS_len (f := l) hg.2 (by omega)
          show ((spS k).length + ((spS l).length + 0)) + 2 * ("," : Str).length ≤ 16777216
          rw [cs_comma]
          omega
      refine ⟨("," : Str), L, ys, rfl, rfl, .inl (SqL.of hL), sum, ?_⟩
      have l1 : (Str.empty ++ z).length ≤ 4 := by rw [str_len, cs_empty]; omega
      have l2 : ((Str.empty ++ z) ++ ("(" : Str)).length ≤ 5 := by rw [str_len, cs_open]; omega
      have l3 : (((Str.empty ++ z) ++ ("(" : Str)) ++ Txt.join ("," : Str) ys).length ≤ 18505 := by rw [str_len]; omega
      refine ⟨.ref a, rfl, a, _, 0, _, rfl, rfl, hs2, at0 _ _, .inl ⟨z, rfl, len_le hz (by decide), z, rfl, len_le l1 (by decide), _, rfl, len_le l2 (by decide), .str _, rfl, .inl ⟨_, rfl, len_le hl (by decide), _, rfl, len_le l3 (by decide), _, rfl, ?_, ?_⟩⟩⟩
      · rw [hj]
        exact len_le whole (by decide)
      · show Q (.str _) H'
        rw [hj]
        exact q H' (e1.trans e2)
  cases g with
  | sg i =>
    obtain ⟨rfl, rfl⟩ := hm
    refine ⟨.ref a, rfl, a, _, 0, _, rfl, rfl, hs, at0 _ _, rfl, _, rfl, ?_⟩
    refine ite2 (fun c => ?_) (fun c => absurd (decide_eq_true rfl) c)
    exact ⟨.ref a, rfl, a, _, 1, _, rfl, rfl, hs, at1 _ _ _, i, rfl, log_small hg, q H (Same.refl H)⟩
  | no k =>
    obtain ⟨rfl, hx⟩ := hm
    refine ⟨.ref a, rfl, a, _, 0, _, rfl, rfl, hs, at0 _ _, rfl, _, rfl, ?_⟩
    refine ite2 (fun c => ?_) (fun c => ?_)
    · exact absurd (V.str.inj (of_decide_eq_true c)) (by decide +kernel)
    exact go ("not" : Str) [spS k] (by decide +kernel) rfl rfl (by rw [join1]; exact spS_len (f := k) hg (by have : k.dep + 1 ≤ 12 := h12; omega)) hs
  | bi b k l =>
    obtain ⟨rfl, hx⟩ := hm
    refine ⟨.ref a, rfl, a, _, 0, _, rfl, rfl, hs, at0 _ _, rfl, _, rfl, ?_⟩
    refine ite2 (fun c => ?_) (fun c => ?_)
    · exact absurd (V.str.inj (of_decide_eq_true c)) (txt_sign b)
    refine go b.txt [spS k, spS l] (cs_txt b) rfl rfl ?_ hs
    have e : (spS (.bi b k l)).length = 0 + b.txt.length + 1 + (Txt.join ("," : Str) [spS k, spS l]).length + 1 := by
      show (((((Str.empty ++ b.txt) ++ ("(" : Str)) ++ Txt.join ("," : Str) [spS k, spS l]) ++ (")" : Str))).length = _
      rw [str_len, str_len, str_len, str_len, cs_empty, cs_open, cs_close]
    omega
theorem all_spelled (D : Df K mg "spelled" sSpelled ["f"] f fd) (B : Blt mg) (I : Has P w K mg base 1 "inner_formulas" ["f"] (spInner K)) : ∀ n : Nat, Has P w K mg base (n + 1) "spelled" ["f"] (spSpelled K n)
  | 0 => by
    have no : ∀ vs H Q E, ¬ spSpelled K 0 vs H Q E := fun vs H Q E h => by
      obtain ⟨v, g, _, _, _, _, h2, _⟩ := h
      omega
    exact D.has ⟨fun vs H Q E h => absurd h (no vs H Q E), fun A outer s H args us vs Q E _ _ _ _ h => absurd h (no vs H Q E)⟩
  | n + 1 => D.has (ok_spelled D B I (all_spelled D B I n))
end
end Lm
set_option Elab.async false
set_option linter.all false
set_option maxRecDepth 100000
set_option maxHeartbeats 2000000
namespace Lm
open PySem PySem.Spec PyProof.Rows L2
/-! ### what the finding adds -/
theorem find_new : ∀ (f : Fm) (acc : List Fm), ∀ g ∈ findP f acc, g ∈ acc ∨ g ∈ f.parts
  | .sg i, acc, g, h => by
    rw [findP] at h
    split at h
    · exact .inl h
    · exact (List.mem_append.mp h)
  | .no k, acc, g, h => by
    rw [findP] at h
    split at h
    · exact .inl h
    · have h : g ∈ findP k (acc ++ [.no k]) := h
      rcases find_new k _ g h with h | h
      · rcases List.mem_append.mp h with h | h
        · exact .inl h
        · exact .inr (List.mem_singleton.mp h ▸ Fm.self_part _)
      · exact .inr (List.mem_cons_of_mem _ h)
  | .bi w k l, acc, g, h => by
    rw [findP] at h
    split at h
    · exact .inl h
    · have h : g ∈ findP l (findP k (acc ++ [.bi w k l])) := h
      rcases find_new l _ g h with h | h
      · rcases find_new k _ g h with h | h
        · rcases List.mem_append.mp h with h | h
          · exact .inl h
          · exact .inr (List.mem_singleton.mp h ▸ Fm.self_part _)
        · exact .inr (List.mem_cons_of_mem _ (List.mem_append_left _ h))
      · exact .inr (List.mem_cons_of_mem _ (List.mem_append_right _ h))
theorem find_good {f : Fm} {acc : List Fm} (hf : f.good) (h : ∀ g ∈ acc, g.good) : ∀ g ∈ findP f acc, g.good := fun g hg => by
  rcases find_new f acc g hg with q | q
  · exact h g q
  · exact Fm.part_good hf q
theorem finds_good : ∀ {ks acc : List Fm}, (∀ k ∈ ks, k.good) → (∀ g ∈ acc, g.good) → ∀ g ∈ ks.foldl (fun a g => findP g a) acc, g.good
  | [], _, _, h => h
  | k :: ks, acc, hk, h => finds_good (ks := ks) (acc := findP k acc) (fun x hx => hk x (List.mem_cons_of_mem _ hx)) (find_good (hk k List.mem_cons_self) h)
theorem finds_len : ∀ (ks acc : List Fm), (ks.foldl (fun a g => findP g a) acc).length ≤ acc.length + (ks.map Fm.size).sum
  | [], acc => Nat.le_add_right _ _
  | k :: ks, acc => by
    have h1 := finds_len ks (findP k acc)
    have h2 := findP_len k acc
    rw [List.foldl_cons, List.map_cons, List.sum_cons]
    omega
theorem kids_sum : ∀ f : Fm, (f.kids.map Fm.size).sum + 1 = f.size
  | .sg _ => rfl
  | .no f => by show f.size + 0 + 1 = f.size + 1; omega
  | .bi _ f g => by show f.size + (g.size + 0) + 1 = f.size + g.size + 1; omega
theorem sum_taken : ∀ {ks : List Fm} {i : Nat} {g : Fm}, ks[i]? = some g → ((ks.take i).map Fm.size).sum + g.size ≤ (ks.map Fm.size).sum
  | [], i, g, h => by simp at h
  | k :: ks, 0, g, h => by
    have e : k = g := Option.some.inj h
    subst e
    show 0 + k.size ≤ ((k :: ks).map Fm.size).sum
    rw [List.map_cons, List.sum_cons]
    omega
  | k :: ks, i + 1, g, h => by
    have q := sum_taken (ks := ks) (i := i) (g := g) h
    show (((k :: ks.take i)).map Fm.size).sum + g.size ≤ ((k :: ks).map Fm.size).sum
    rw [List.map_cons, List.sum_cons, List.map_cons, List.sum_cons]
    omega
section
variable {P : Program} {w : World} {K : PySem.W.Frag} {mg : Str → Option Value} {base : Heap} {f : Addr} {fd : FuncData}
/-! ### _find_parts -/
theorem scFind : FnScope ["f", "found", "text", "inner"] ["f", "found"] (defScope sFind) := ⟨rfl, rfl, rfl, by decide +kernel, rfl, by decide +kernel, by decide +kernel⟩
theorem ok_find {n : Nat} (D : Df K mg "_find_parts" sFind ["f", "found"] f fd) (Sp : Has P w K mg base 14 "spelled" ["f"] (spSpelled K 13)) (I : Has P w K mg base 1 "inner_formulas" ["f"] (spInner K)) (G : Has P w K mg base (n + 14) "_find_parts" ["f", "found"] (spFind K n)) :
    FnOk P w K mg base CX0 (n + 15) f fd ["f", "found"] (spFind K (n + 1)) := by
  refine D.fn.ok scFind (fun vs H Q E h => ?_) (fun cdv A outer s H vs Q E hr h => ?_)
  · obtain ⟨v, g, a, kvs, fs, rfl, _⟩ := h
    rfl
  obtain ⟨v, g, a, kvs, fs, rfl, hd, hg, h12, hn, ha, hf, hfg, hz, q⟩ := h
  have hr1 : Room 1 (A.deeper (envOfC "_find_parts" (defScope sFind) s.heap.objs.size f cdv)) := hr.mono (by omega)
  have hr14 : Room 14 (A.deeper (envOfC "_find_parts" (defScope sFind) s.heap.objs.size f cdv)) := hr.mono (by omega)
  refine ⟨_, pss_cons (ps_set (i := 2) scFind.nd rfl (.inl rfl) (pe_callH Sp hr14 (by rfl) (pa_cons (pv 0) pa_nil)))
    (pss_cons (ps_if (pt_cmp (pc_din (hu_of hr) (pv 2) (pv 1)) (by rfl)) (pss_one ps_retN) pss_nil)
    (pss_cons (ps_dput (hu_of hr) (pv 1) (pv 2) (pv 0) rfl)
    (pss_one (ps_for PassesOwn.never rfl (pi_tup (pe_callH I hr1 (by rfl) (pa_cons (pv 0) pa_nil))) (pg_name (i := 3) scFind.nd rfl (.inl rfl))
      (pss_one (ps_expr (pe_callH G hr (by rfl) (pa_cons (pv 3) (pa_cons (pv 1) pa_nil))))))))), ?_⟩
  refine ⟨v, rfl, v, g, rfl, hd, hg, h12, by omega, fun H1 e1 => ?_⟩
  have h1 : H1 a = some (.dK kvs) := e1 _ _ ha
  have hf1 : Found K H1 kvs fs := found_keep (Tk.of_same e1) hf
  have fl := found_len hf
  refine ⟨.str (spS g), rfl, .ref a, rfl, a, _, rfl, DGet.k (k := Sum.inr (spS g)) h1, _, rfl, ?_⟩
  rw [found_at hg hf1 hfg]
  refine ite2 (fun c => ?_) (fun c => ?_)
  · have m : g ∈ fs := of_decide_eq_true c
    refine q H1 kvs (Same.but e1 a) h1 ?_
    rw [findP_in m]
    exact hf1
  have m : ¬ g ∈ fs := fun z => c (decide_eq_true z)
  have lz : kvs.length < sizeLine := sl1001 (by omega)
  have vn : valV kvs (Sum.inr (spS g)) = none := by
    have z := found_at hg hf1 hfg
    rw [decide_eq_false m] at z
    cases e : valV kvs (Sum.inr (spS g)) with
    | none => rfl
    | some u => rw [e] at z; cases z
  refine ⟨v, rfl, .ref a, rfl, .str (spS g), rfl, a, _, rfl, DPut.k (k := Sum.inr (spS g)) h1 lz, ?_⟩
  rw [putK_new _ vn]
  -- behind the store
  have b2 : But a H1 (upd H1 a (.dK (kvs ++ [(Sum.inr (spS g), v)]))) := But.upd a H1 _
  have t2 : Tk K H1 (upd H1 a (.dK (kvs ++ [(Sum.inr (spS g), v)]))) := Tk.of_but b2 (.inr (.inl ⟨_, h1⟩))
  have hd1 : Dp K H1 v g.toD := fm_keep (Tk.of_same e1) g v hd
  have hf2 : Found K (upd H1 a (.dK (kvs ++ [(Sum.inr (spS g), v)]))) (kvs ++ [(Sum.inr (spS g), v)]) (fs ++ [g]) := found_app (found_keep t2 hf1) (.cons ⟨rfl, fm_keep t2 g v hd1⟩ .nil)
  have hg2 : ∀ k ∈ fs ++ [g], k.good := fun k hk => by
    rcases List.mem_append.mp hk with z | z
    · exact hfg k z
    · rw [List.mem_singleton.mp z]; exact hg
  refine ⟨v, rfl, v, g, rfl, fm_keep t2 g v hd1, fun r H2 ks e2 hk hks => ⟨r, rfl, ⟨ks, hk⟩, ?_⟩⟩
  have h2 : H2 a = some (.dK (kvs ++ [(Sum.inr (spS g), v)])) := e2 _ _ upd_same
  have hkl : ks.length = g.kids.length := by rw [dpAll_len hks, List.length_map]
  refine for_tup (K := K) (a := r) (xs := ks) (fun i σ H' => ∃ x : Option V, σ = [some v, some (.ref a), some (.str (spS g)), x] ∧ But a H2 H' ∧ ∃ kvs', H' a = some (.dK kvs') ∧ Found K H' kvs' ((g.kids.take i).foldl (fun a g => findP g a) (fs ++ [g])))
    ⟨none, rfl, But.refl a H2, _, h2, found_keep (Tk.of_same e2) hf2⟩ (fun i σ H' _ p => ?_) ?_ ?_
  · obtain ⟨x, _, b, _⟩ := p
    exact Tk.of_but b (.inr (.inl ⟨_, h2⟩)) _ _ hk
  · rintro i y σ H' hi ⟨x, rfl, b, kvs', h', f'⟩
    obtain ⟨k, hk1, hy⟩ := kid_get hks hi
    have mem : k ∈ g.kids := List.mem_of_getElem? hk1
    have dl := kid_dep mem
    have ln := finds_len (g.kids.take i) (fs ++ [g])
    have sm := sum_taken hk1
    have ks1 := kids_sum g
    rw [List.length_append, List.length_singleton] at ln
    refine ⟨y, rfl, .ref a, rfl, y, k, a, kvs', _, rfl, fm_keep (Tk.of_but b (.inr (.inl ⟨_, h2⟩))) k y hy, kid_good hg mem, by omega, by omega, h', f', finds_good (fun z hz => kid_good hg (List.mem_of_mem_take hz)) hg2, by omega, fun H'' kvs'' b'' h'' f'' => ?_⟩
    refine ⟨some y, rfl, b.trans b'', kvs'', h'', ?_⟩
    rw [List.take_succ, hk1]
    show Found K H'' kvs'' ((g.kids.take i ++ [k]).foldl (fun a g => findP g a) (fs ++ [g]))
    rw [List.foldl_append]
    exact f''
  · rintro σ H' ⟨x, rfl, b, kvs', h', f'⟩
    rw [hkl, List.take_length] at f'
    have e : findP g fs = g.kids.foldl (fun a g => findP g a) (fs ++ [g]) := findP_out m
    refine q H' kvs' ?_ h' (by rw [e]; exact f')
    exact (Same.but e1 a).trans (b2.trans ((Same.but e2 a).trans b))
theorem all_find (D : Df K mg "_find_parts" sFind ["f", "found"] f fd) (Sp : Has P w K mg base 14 "spelled" ["f"] (spSpelled K 13)) (I : Has P w K mg base 1 "inner_formulas" ["f"] (spInner K)) : ∀ n : Nat, Has P w K mg base (n + 14) "_find_parts" ["f", "found"] (spFind K n)
  | 0 => by
    have no : ∀ vs H Q E, ¬ spFind K 0 vs H Q E := fun vs H Q E h => by
      obtain ⟨v, g, a, kvs, fs, _, _, _, _, h2, _⟩ := h
      omega
    exact D.has ⟨fun vs H Q E h => absurd h (no vs H Q E), fun A outer s H args us vs Q E _ _ _ _ h => absurd h (no vs H Q E)⟩
  | n + 1 => D.has (ok_find D Sp I (all_find D Sp I n))
/-! ### parts -/
theorem scParts : FnScope ["f", "found"] ["f"] (defScope sParts) := ⟨rfl, rfl, rfl, by decide +kernel, rfl, by decide +kernel, by decide +kernel⟩
theorem ok_parts (D : Df K mg "parts" sParts ["f"] f fd) (B : Blt mg) (R : Has P w K mg base 17 "refuse_no_formula" ["thing"] (spRefuse0 K)) (G : Has P w K mg base 27 "_find_parts" ["f", "found"] (spFind K 13)) : FnOk P w K mg base CX0 28 f fd ["f"] (spParts K) := by
  refine D.fn.ok scParts (fun vs H Q E h => ?_) (fun cdv A outer s H vs Q E hr h => ?_)
  · obtain ⟨v, g, rfl, _⟩ := h
    rfl
  obtain ⟨v, g, rfl, hd, hg, h12, q⟩ := h
  refine ⟨_, pss_cons (ps_expr (pe_callH R (hr.mono (by decide)) (by rfl) (pa_cons (pv 0) pa_nil)))
    (pss_cons (ps_set (i := 1) scParts.nd rfl (.inl rfl) pe_dnewK)
    (pss_cons (ps_expr (pe_callH G hr (by rfl) (pa_cons (pv 0) (pa_cons (pv 1) pa_nil))))
    (pss_one (ps_ret (pe_listVals rfl (pv 1) (by rfl) B.list bt_list))))), ?_⟩
  have sz := Fm.size_dep g
  have pw : 2 ^ g.dep ≤ 2 ^ 12 := Nat.pow_le_pow_right (by decide) h12
  have e12 : (2 : Nat) ^ 12 = 4096 := by decide
  refine ⟨v, rfl, v, g.toD, rfl, hd, isF_toD g 12 hg h12, fun H1 e1 => ?_⟩
  intro a na
  have s2 : Same H1 (upd H1 a (.dK [])) := same_new na _
  refine ⟨v, rfl, .ref a, rfl, v, g, a, [], [], rfl, fm_keep (Tk.of_same (e1.trans s2)) g v hd, hg, h12, by omega, upd_same, .nil, (fun _ h => nomatch h), by show 0 + g.size ≤ 10000; omega, fun H2 kvs b h2 f2 => ?_⟩
  refine ⟨.ref a, rfl, a, kvs, rfl, h2, fun p np => ?_⟩
  have e2 : Same H1 H2 := fun x o h => b x o (s2 x o h) (ne_of_none h na)
  refine q p _ (kvs.map (·.2)) (e1.trans (e2.trans (same_new np _))) upd_same ?_
  exact fms_keep (Tk.of_same (same_new np _)) _ _ (found_vals f2)
/-! ### _is_true -/
theorem scIsTrue : FnScope ["f", "true_signs", "word", "told", "inner"] ["f", "true_signs"] (defScope sIsTrue) := ⟨rfl, rfl, rfl, by decide +kernel, rfl, by decide +kernel, by decide +kernel⟩
theorem ok_isTrue {n : Nat} (D : Df K mg "_is_true" sIsTrue ["f", "true_signs"] f fd) (I : Has P w K mg base 1 "inner_formulas" ["f"] (spInner K)) (G : Has P w K mg base (n + 1) "_is_true" ["f", "true_signs"] (spIsTrue K n)) :
    FnOk P w K mg base CX0 (n + 2) f fd ["f", "true_signs"] (spIsTrue K (n + 1)) := by
  refine D.fn.ok scIsTrue (fun vs H Q E h => ?_) (fun cdv A outer s H vs Q E hr h => ?_)
  · obtain ⟨v, g, a, kvs, S, rfl, _⟩ := h
    rfl
  obtain ⟨v, g, ad, kvs, S, rfl, hd, hn, had, hS, q⟩ := h
  have hr1 : Room 1 (A.deeper (envOfC "_is_true" (defScope sIsTrue) s.heap.objs.size f cdv)) := hr.mono (by omega)
  refine ⟨_, pss_cons (ps_set (i := 2) scIsTrue.nd rfl (.inl rfl) (pe_ix ix_tup (pv 0) pe_int (fun _ _ => rfl)))
    (pss_cons (ps_if (pt_cmpR op_eq (pv 2) pe_str (nomark _)) (pss_one (ps_ret (pe_cmp (pc_din (hu_of hr) (pe_ix ix_tup (pv 0) pe_int (fun _ _ => rfl)) (pv 1)) (by rfl)))) pss_nil)
    (pss_cons (ps_setLc (i := 3) (own := [("inner", 4)]) (g := gName 4) (tt := tYes) rfl scIsTrue.nd rfl rfl (sw_true rfl rfl rfl (by decide +kernel)) (pi_tup (pe_callH I hr1 (by rfl) (pa_cons (pv 0) pa_nil)))
      (blkOk_by (N := ["f", "true_signs", "word", "told", "inner"]) (sc := defScope sIsTrue) (by decide +kernel)) (fun _ _ _ _ _ => pg_name (i := 4) scIsTrue.nd rfl (Or.inl rfl)) (fun _ _ _ _ _ => pts_nil)
      (fun _ _ _ _ _ => pe_callH G hr (by rfl) (pa_cons (pv 4) (pa_cons (pv 1) pa_nil))))
    (pss_cons (ps_if (pt_cmpR op_eq (pv 2) pe_str (nomark _)) (pss_one (ps_ret (pe_not (pe_ix ix_list (pv 3) pe_int (fun _ _ => rfl))))) pss_nil)
    (pss_cons (ps_if (pt_cmpR op_eq (pv 2) pe_str (nomark _)) (pss_one (ps_ret (pe_and (pe_ix ix_list (pv 3) pe_int (fun _ _ => rfl)) (pe_one (pe_ix ix_list (pv 3) pe_int (fun _ _ => rfl)))))) pss_nil)
    (pss_cons (ps_if (pt_cmpR op_eq (pv 2) pe_str (nomark _)) (pss_one (ps_ret (pe_or (pe_ix ix_list (pv 3) pe_int (fun _ _ => rfl)) (pe_one (pe_ix ix_list (pv 3) pe_int (fun _ _ => rfl)))))) pss_nil)
    (pss_one (ps_ret (pe_or (pe_not (pe_ix ix_list (pv 3) pe_int (fun _ _ => rfl))) (pe_one (pe_ix ix_list (pv 3) pe_int (fun _ _ => rfl))))))))))), ?_⟩
  obtain ⟨a, x, xs, rfl, hs, hm⟩ := dp_kids hd
  refine ⟨.ref a, rfl, a, _, 0, _, rfl, rfl, hs, at0 _ _, ?_⟩
  -- behind told = [..]: what is asked of the rest
  have told : ∀ (z : Str) (Q' : VK), (∀ L H', Same H H' → H' L = some (.lst (g.kids.map fun k => V.bl (k.tr S))) → Q' (.ref L) H') →
      tLc (iTup K (tCall (spInner K) [] E0 (tCons (tVar 0) tNil))) (gName 4) tYes (tCall (spIsTrue K n) [] E0 (tCons (tVar 4) (tCons (tVar 1) tNil))) [4] [some (.ref a), some (.ref ad), some (.str z), none, none] H Q' := by
    intro z R hR
    refine ⟨.ref a, rfl, .ref a, g, rfl, hd, fun r H1 ks e1 hk hks => ⟨r, rfl, ⟨ks, hk⟩, fun L nL => ?_⟩⟩
    have hkl : ks.length = g.kids.length := by rw [dpAll_len hks, List.length_map]
    refine lc_map_tup (K := K) (a := r) (xs := ks) (ys := g.kids.map fun k => V.bl (k.tr S)) (j := 4) hk nL (by rw [List.length_map, hkl]) (by rw [List.length_map]; exact sl1000 (Nat.le_trans (kids_len g) (by decide))) (fun i y b H' hi hb e2 Q' q' => ?_) (fun H' e2 hL => hR L H' (e1.trans e2) hL)
    obtain ⟨k, hk1, hy⟩ := kid_get hks hi
    have mem : k ∈ g.kids := List.mem_of_getElem? hk1
    have eb : b = .bl (k.tr S) := by
      rw [List.getElem?_map, hk1] at hb
      exact (Option.some.inj hb).symm
    have dl := kid_dep mem
    refine ⟨y, rfl, .ref ad, rfl, y, k, ad, kvs, S, rfl, dp_same e2 _ _ hy, by omega, e2 _ _ (e1 _ _ had), hS, fun H'' e3 => ?_⟩
    rw [← eb]
    exact q' H'' e3
  cases g with
  | sg i =>
    obtain ⟨rfl, rfl⟩ := hm
    refine ⟨.str ("sign" : Str), rfl, rfl, _, rfl, ?_⟩
    refine ite2 (fun c => ?_) (fun c => absurd (decide_eq_true rfl) c)
    refine ⟨.ref a, rfl, a, _, 1, _, rfl, rfl, hs, at1 _ _ _, .ref ad, rfl, ad, _, rfl, DGet.k (k := Sum.inl i) had, ?_⟩
    rw [hS i]
    exact q H (Same.refl H)
  | no k =>
    obtain ⟨rfl, hx⟩ := hm
    refine ⟨.str ("not" : Str), rfl, rfl, _, rfl, ?_⟩
    refine ite2 (fun c => absurd (V.str.inj (of_decide_eq_true c)) (by decide +kernel)) (fun c => ?_)
    dsimp only [tNext, tSeq, tAsg]
    refine told ("not" : Str) _ fun L H' e hL => ?_
    refine ⟨.str ("not" : Str), rfl, rfl, _, rfl, ?_⟩
    refine ite2 (fun _ => ?_) (fun c => absurd (decide_eq_true rfl) c)
    exact ⟨.ref L, rfl, L, _, 0, _, rfl, rfl, SqL.of hL, at0 _ _, _, rfl, q H' e⟩
  | bi b k l =>
    obtain ⟨rfl, hx⟩ := hm
    refine ⟨.str b.txt, rfl, rfl, _, rfl, ?_⟩
    refine ite2 (fun c => absurd (V.str.inj (of_decide_eq_true c)) (txt_sign b)) (fun c => ?_)
    dsimp only [tNext, tSeq, tAsg]
    refine told b.txt _ fun L H' e hL => ?_
    have qq : ∀ (c : Bool), (Fm.bi b k l).tr S = c → Q (.bl c) H' := fun c h => h ▸ q H' e
    have hL0 : SqL K H' L [.bl (k.tr S), .bl (l.tr S)] := SqL.of hL
    refine ⟨.str b.txt, rfl, rfl, _, rfl, ?_⟩
    refine ite2 (fun c => absurd (V.str.inj (of_decide_eq_true c)) (txt_not b)) (fun _ => ?_)
    refine ⟨.str b.txt, rfl, rfl, _, rfl, ?_⟩
    cases b with
    | an =>
      refine ite2 (fun _ => ?_) (fun c => absurd (decide_eq_true rfl) c)
      refine ⟨.ref L, rfl, L, _, 0, _, rfl, rfl, hL0, at0 _ _, k.tr S, rfl, ?_⟩
      refine ite2 (fun c => ?_) (fun c => ?_)
      · refine ⟨.ref L, rfl, L, _, 1, _, rfl, rfl, hL0, at1 _ _ _, ?_⟩
        refine qq _ ?_
        show (k.tr S && l.tr S) = _
        rw [c, Bool.true_and]
      · refine qq _ ?_
        show (k.tr S && l.tr S) = _
        rw [Bool.eq_false_iff.mpr c, Bool.false_and]
    | o =>
      refine ite2 (fun c => absurd (V.str.inj (of_decide_eq_true c)) (by decide +kernel)) (fun _ => ?_)
      refine ⟨.str ("or" : Str), rfl, rfl, _, rfl, ?_⟩
      refine ite2 (fun _ => ?_) (fun c => absurd (decide_eq_true rfl) c)
      refine ⟨.ref L, rfl, L, _, 0, _, rfl, rfl, hL0, at0 _ _, k.tr S, rfl, ?_⟩
      refine ite2 (fun c => ?_) (fun c => ?_)
      · refine qq _ ?_
        show (k.tr S || l.tr S) = _
        rw [c, Bool.true_or]
      · refine ⟨.ref L, rfl, L, _, 1, _, rfl, rfl, hL0, at1 _ _ _, ?_⟩
        refine qq _ ?_
        show (k.tr S || l.tr S) = _
        rw [Bool.eq_false_iff.mpr c, Bool.false_or]
    | th =>
      refine ite2 (fun c => absurd (V.str.inj (of_decide_eq_true c)) (by decide +kernel)) (fun _ => ?_)
      refine ⟨.str ("then" : Str), rfl, rfl, _, rfl, ?_⟩
      refine ite2 (fun c => absurd (V.str.inj (of_decide_eq_true c)) (by decide +kernel)) (fun _ => ?_)
      refine ⟨.ref L, rfl, L, _, 0, _, rfl, rfl, hL0, at0 _ _, k.tr S, rfl, _, rfl, ?_⟩
      refine ite2 (fun c => ?_) (fun c => ?_)
      · refine qq _ ?_
        show (!(k.tr S) || l.tr S) = _
        rw [c, Bool.true_or]
      · refine ⟨.ref L, rfl, L, _, 1, _, rfl, rfl, hL0, at1 _ _ _, ?_⟩
        refine qq _ ?_
        show (!(k.tr S) || l.tr S) = _
        rw [Bool.eq_false_iff.mpr c, Bool.false_or]
theorem all_isTrue (D : Df K mg "_is_true" sIsTrue ["f", "true_signs"] f fd) (I : Has P w K mg base 1 "inner_formulas" ["f"] (spInner K)) : ∀ n : Nat, Has P w K mg base (n + 1) "_is_true" ["f", "true_signs"] (spIsTrue K n)
  | 0 => by
    have no : ∀ vs H Q E, ¬ spIsTrue K 0 vs H Q E := fun vs H Q E h => by
      obtain ⟨v, g, a, kvs, S, _, _, h2, _⟩ := h
      omega
    exact D.has ⟨fun vs H Q E h => absurd h (no vs H Q E), fun A outer s H args us vs Q E _ _ _ _ h => absurd h (no vs H Q E)⟩
  | n + 1 => D.has (ok_isTrue D I (all_isTrue D I n))
/-! ### truth -/
theorem scTruth : FnScope ["f", "world", "n"] ["f", "world"] (defScope sTruth) := ⟨rfl, rfl, rfl, by decide +kernel, rfl, by decide +kernel, by decide +kernel⟩
theorem ok_truth (D : Df K mg "truth" sTruth ["f", "world"] f fd) (R : Has P w K mg base 17 "refuse_no_formula" ["thing"] (spRefuse0 K)) (N : Has P w K mg base 1 "is_number" ["thing"] (spIsNum K)) (G : Has P w K mg base 14 "_is_true" ["f", "true_signs"] (spIsTrue K 13)) :
    FnOk P w K mg base CX0 18 f fd ["f", "world"] (spTruth K) := by
  refine D.fn.ok scTruth (fun vs H Q E h => ?_) (fun cdv A outer s H vs Q E hr h => ?_)
  · obtain ⟨v, g, a, ns, rfl, _⟩ := h
    rfl
  obtain ⟨v, g, a, ns, rfl, hd, hg, h12, hs, hl, q⟩ := h
  refine ⟨_, pss_cons (ps_expr (pe_callH R hr (by rfl) (pa_cons (pv 0) pa_nil)))
    (pss_one (ps_ret (pe_callH G (hr.mono (by decide)) (by rfl) (pa_cons (pv 0) (pa_cons (pe_dc (own := [("n", 2)]) (g := gName 2) rfl scTruth.nd (pi_list (pv 1))
      (blkOk_by (N := ["f", "world", "n"]) (sc := defScope sTruth) (by decide +kernel)) (fun _ _ _ _ _ => pg_name (i := 2) scTruth.nd rfl (Or.inl rfl))
      (fun _ _ _ _ _ => pts_one (pt_val (pe_callH N (hr.mono (by decide)) (by rfl) (pa_cons (pv 2) pa_nil)))) (fun _ _ _ _ _ => pv 2) (fun _ _ _ _ _ => pe_bl)) pa_nil))))), ?_⟩
  refine ⟨v, rfl, v, g.toD, rfl, hd, isF_toD g 12 hg h12, fun H1 e1 => ?_⟩
  refine ⟨v, rfl, .ref a, rfl, a, rfl, ⟨_, e1.seq hs⟩, fun L nL => ?_⟩
  refine dc_list (K := K) (a := a) (xs := ns.map V.int) (fun i H' => Same H1 H' ∧ ∃ kvs : List (Key × V), H' L = some (.dK kvs) ∧ kvs.length ≤ i ∧ i ≤ 1000 ∧ ∀ j : Int, (valV kvs (Sum.inl j)).isSome = decide (j ∈ ns.take i))
    ⟨same_new nL _, [], upd_same, Nat.le_refl _, by decide, fun j => by simp [valV_nil]⟩ (fun i H' _ p => p.1.seq (e1.seq hs)) (fun i x H' hi p => ?_) (fun H' p => ?_)
  · obtain ⟨e2, kvs, h2, l2, i2, m2⟩ := p
    obtain ⟨z, hz, rfl⟩ : ∃ z, ns[i]? = some z ∧ x = V.int z := by
      rw [List.getElem?_map] at hi
      cases e : ns[i]? with
      | none => rw [e] at hi; cases hi
      | some z => rw [e] at hi; exact ⟨z, rfl, (Option.some.inj hi).symm⟩
    have hi2 : i < ns.length := (List.getElem?_eq_some_iff.mp hz).1
    refine ⟨wipe1 _ _ _, ?_⟩
    refine ⟨.int z, rfl, .int z, .int z, rfl, .int z, true, rfl, ?_⟩
    refine ⟨.int z, rfl, kvs, Sum.inl z, rfl, h2, sl1001 (by omega), same_upd e2 nL, _, upd_same, ?_, by omega, fun j => ?_⟩
    · have := length_putK kvs (Sum.inl z) (V.bl true)
      omega
    · rw [valV_put, List.take_succ, hz]
      by_cases e : j = z
      · subst e
        rw [if_pos rfl]
        have : j ∈ ns.take i ++ (some j).toList := List.mem_append_right _ (by simp)
        rw [decide_eq_true this]
        rfl
      · have ne : ¬ (Sum.inl j : Key) = Sum.inl z := fun y => e (Sum.inl.inj y)
        rw [if_neg ne, m2 j]
        by_cases mm : j ∈ ns.take i
        · have : j ∈ ns.take i ++ (some z).toList := List.mem_append_left _ mm
          rw [decide_eq_true mm, decide_eq_true this]
        · have : ¬ j ∈ ns.take i ++ (some z).toList := fun y => by
            rcases List.mem_append.mp y with y | y
            · exact mm y
            · exact e (by simpa using y)
          rw [decide_eq_false mm, decide_eq_false this]
  · obtain ⟨e2, kvs, h2, _, _, m2⟩ := p
    rw [List.length_map, List.take_length] at m2
    refine ⟨v, g, L, kvs, fun j => decide (j ∈ ns), rfl, dp_same (e1.trans e2) _ _ hd, by omega, h2, m2, fun H'' e3 => ?_⟩
    exact q H'' (e1.trans (e2.trans e3))
end
end Lm
set_option Elab.async false
set_option linter.all false
set_option maxRecDepth 100000
set_option maxHeartbeats 2000000
namespace Lm
open PySem PySem.Spec PyProof.Rows L2
/-! ### a lambda whose errors have no context -/
/-- the lambda's context, in which what leaves it is told as L2N has it -/
abbrev nCx (X : Cx) (A : Around) (outer : List Env) (s0 : Shared) (H0 : Hp) (E : XK) (ls : Scope) (f co : Addr) : Cx :=
  (LamX.lamCx X A outer s0 H0 E ls f co).wish fun u z => wpAny (model X.prog X.w) (A.deeper (LamX.lamEnv X ls s0.heap.objs.size f co)) (leaving (LamX.lamEnv X ls s0.heap.objs.size f co) u)
    (fun _ y => L2N.CX X.prog X.w outer H0 s0 E u y) (fun v y => L2N.CX X.prog X.w outer H0 s0 E v y) z
theorem nCx_takes {X : Cx} {A : Around} {outer : List Env} {s0 : Shared} {H0 : Hp} {E : XK} {ls : Scope} {f co : Addr} : L2N.Takes (nCx X A outer s0 H0 E ls f co) (fun c d _ H => E c d H) :=
  L2N.takes_of rfl rfl rfl rfl
theorem nTakes0 {X : Cx} : L2N.Takes X (fun _ _ _ _ => False) := fun _ _ ⟨_, _, _, _, _, _, _, _, _, _, _, _, _, _, _, _, z⟩ => z.elim
section
variable {X : Cx} {pins : List (Addr × Obj)} {σ0 : L2.St} {H0 : Hp} {s0 : Shared}
/-- deed(), in the def that was handed the lambda -/
theorem pe_deed {CT : CXT} {ET : XK} {M : List Str} {qn : Str} {ds : Scope} {da f co : Addr} {dc pm ct : Value} {ag : Arguments} {bd : Expr} {ls : Scope} {k : Nat} {nm : Str} {pn : List (Addr × Obj)} {xe : Value → Shared → Prop} {W : WX} {E : XK} {tb : TE} {p1 p2 : Pos}
    (J : Inv X pins σ0 H0 s0) (L : LamX.LamS X.env.scope ls) (gf : s0.heap.get? f = some (PySem.W.kla_obj "<lambda>" (X.env.qual ++ "<lambda>") ag bd ls (cloFrom X.env.cells ls.names []) pm co ct)) (nf : H0 f = none) (ff : f ∉ frs X.stack)
    (bind : bindArgs (PySem.W.kla_fn "<lambda>" (X.env.qual ++ "<lambda>") ag bd ls (cloFrom X.env.cells ls.names []) pm (.ref co) ct) ⟨[], []⟩ = pure [])
    (tk : L2N.Takes ((cxOf CT X.prog X.w X.K X.mg X.base M qn ds da dc X.A X.stack s0 H0 ET).tr pn xe) W) (tw : ∀ c d σ' H', E c d H' → W c d σ' H') (room : Room (k + 1) (X.A.deeper (envOfC qn ds s0.heap.objs.size da dc)))
    (body : ∀ (A : Around) (outer : List Env) (s : Shared) (H : Hp), Room k (A.deeper (LamX.lamEnv X ls s.heap.objs.size f co)) → PE (nCx X A outer s H E ls f co) bd tb)
    (first : M[0]? = some nm) (vis : Vis ds nm) (d1 : (nm == ("__debug__" : Str)) = false) (d2 : (nm == ("__classdict__" : Str)) = false) :
    PE ((cxOf CT X.prog X.w X.K X.mg X.base M qn ds da dc X.A X.stack s0 H0 ET).tr pn xe) (.Call (.Name nm p1) [] [] p2)
      (fun σ H Q => σ[0]? = some (some (.ref f)) ∧ H co = some (LamX.CodeO co (X.env.qual ++ "<lambda>")) ∧ tb σ0 H Q) := by
  refine ⟨fun pz sz σz Hz Q Iz h => ?_⟩
  obtain ⟨z0, zc, zt⟩ := h
  refine wpAny_Call_Name_kw (thn ((pe_var (pos := p1) (i := 0) first vis d1 d2).run pz sz σz Hz (fun v H1 => v = .ref f ∧ H1 = Hz) Iz ⟨.ref f, z0, rfl, rfl⟩) fun u sa ⟨v, Ha, Ia, ra, qa⟩ => ?_)
  obtain ⟨rfl, rfl⟩ := qa
  obtain rfl : u = Value.ref f := ra
  have gfa := Ia.base.keep f _ gf nf ff (fun z => nomatch (show f ∈ ([] : List Addr) from z))
  refine PySem.W.callWith_F0 ⟨_, _, _, _, gfa⟩ ?_
  have change : Un (frs X.stack) [] H0 Ha s0.heap sa.heap := Ia.base
  obtain ⟨⟨oc, vs, t, hoc, hdc, hvc⟩, _, _⟩ := Ia.hok co _ zc
  have ran : codeAny (model X.prog X.w) (X.A.deeper (envOfC qn ds s0.heap.objs.size da dc)) (.call (.ref f) ⟨[], []⟩) (CR (L2N.CX X.prog X.w) (envOfC qn ds s0.heap.objs.size da dc :: X.stack) X.prog X.w Ha sa Q E) sa := by
    refine PySem.W.kla_callFunE room.depth gfa rfl L.co L.gen rfl ⟨co, oc, vs, t, rfl, hoc, hdc, hvc⟩ ?_
    rw [bind]
    refine wpAny_pure (wpAny_newFunctionEnv (fun y hy => (L.own y hy).2) (fun y hy => absurd hy (by simp)) (fun hb hn hs => ⟨Ia.nolimit.fresh _ hs, ?_⟩) L.kind)
    show codeAny _ _ (.expr bd (LamX.lamEnv X ls sa.heap.objs.size f co)) _ _
    have keeps : ∀ b o, sa.heap.get? b = some o → hb.get? b = some o := fun b o e => hs.extBut b o (Nat.ne_of_lt (Heap.lt_size e)) (Heap.get?_push_of_some _ e)
    have J2 := (LamX.lam_start2 (E := E) (f := f) (c' := co) (tk := sa.toks + ([] : List (Str × Value)).length) J L Ia.env0 room.hd change hn keeps).wish (fun u z => wpAny (model X.prog X.w) ((X.A.deeper (envOfC qn ds s0.heap.objs.size da dc)).deeper (LamX.lamEnv X ls sa.heap.objs.size f co)) (leaving (LamX.lamEnv X ls sa.heap.objs.size f co) u)
      (fun _ y => L2N.CX X.prog X.w (envOfC qn ds s0.heap.objs.size da dc :: X.stack) Ha sa E u y) (fun v y => L2N.CX X.prog X.w (envOfC qn ds s0.heap.objs.size da dc :: X.stack) Ha sa E v y) z)
    refine PySem.W.kla_codeExpr (wpAny_mono ((body _ _ sa Ha (room.deeper _)).run [] _ σ0 Ha Q J2 zt) (fun v sb hq => ?_) fun e sb hq => hq)
    obtain ⟨wv, Hb, Jb, rv, q⟩ := hq
    exact ⟨wv, Hb, Jb.os, Jb.bare, Jb.base, Jb.hok, rv, q⟩
  refine wpAny_call (codeAny_mono ran fun r sb hq => ?_)
  cases r with
  | error e => exact L2N.passes_call tk tw pz σz Ha sa e sb Ia hq
  | ok fl =>
    cases fl with
    | ret u => exact Ia.after hq
    | next => exact False.elim hq
    | brk => exact False.elim hq
    | cont => exact False.elim hq
end
/-! ### the refusals' classes -/
/-- what is known of an error's class -/
structure ErrK (K : PySem.W.Frag) (C : Addr) : Prop where
  ex : ExcC K C
  new : PySem.W.excIn K C [.type "ValueError", .type "Exception", .type "BaseException", .type "object"] "ValueError.__new__" = true
  kp : PySem.W.keepIn K (.ref C) = true
  ty : PySem.W.typeIn K (.ref C) = some (.type "type")
/-- .. of the one that is due, beside LineError and the others -/
structure RefdK (K : PySem.W.Frag) (mg : Str → Option Value) (CL C0 C1 C2 C3 : Addr) : Prop where
  main : ErrK K C0
  cl : PySem.W.exmOne K (.ref C0) (.ref CL) = some true
  k0 : PySem.W.kitOne K (.ref C0) (.ref C0) = some true
  kv : PySem.W.kitOne K (.ref C0) (.type "ValueError") = some true
  k1 : PySem.W.kitOne K (.ref C0) (.ref C1) = some false
  k2 : PySem.W.kitOne K (.ref C0) (.ref C2) = some false
  k3 : PySem.W.kitOne K (.ref C0) (.ref C3) = some false
  mL : mg "LineError" = some (.ref CL)
  m0 : mg "BadFormula" = some (.ref C0)
  m1 : mg "BadClaim" = some (.ref C1)
  m2 : mg "BadChain" = some (.ref C2)
  m3 : mg "NoLemma" = some (.ref C3)
  isinstance : mg "isinstance" = none
  any : mg "any" = none
  ve : mg "ValueError" = none
theorem bt_any : bootBuiltins "any" = some (.builtin "any") := by first | exact PyProof.Rows.boot_any | decide +kernel
theorem bt_ve : bootBuiltins "ValueError" = some (.type "ValueError") := by first | exact PyProof.Rows.boot_ValueError | decide +kernel
theorem scRefd : FnScope ["_law_deed", "e", "_law_others"] ["_law_deed"] (defScope sRefused) := ⟨rfl, rfl, rfl, by decide +kernel, rfl, by decide +kernel, by decide +kernel⟩
/-- _law_refused(lambda: ..): False where nothing is raised, True where the error is of the class C0 -/
def tRefd (C0 : Addr) (T : List (Addr × Str)) (t : XK → TE) : TE := fun σ H Q => LamX.Tabs T H ∧ ∀ H1, LamX.ExtN H H1 → LamX.Tabs T H1 → t (fun cls d H' => cls = .ref C0 ∧ d = none ∧ ∀ H2, Same H' H2 → Q (.bl true) H2) σ H1 fun _ H' => Q (.bl false) H'
theorem pe_refused {X : Cx} {g c P CL C0 C1 C2 C3 : Addr} {gd : FuncData} {k : Nat} {ag : Arguments} {bd : Expr} {ls : Scope} {lpos p pos : Pos} {t : XK → TE} (D : Df X.K X.mg "_law_refused" sRefused ["_law_deed"] g gd) (R : RefdK X.K X.mg CL C0 C1 C2 C3) (hg : Gl X "_law_refused") {ql : Str} (hql : X.env.qual = ql)
    (TB : LamX.TabB X.base X.mg c P) (hcode : X.env.code = .ref c) (hr : Room (k + 2) X.A) (L : LamX.LamS X.env.scope ls) (hdef : defaultsOf ag X.env = ([], []))
    (hbind : ∀ (q : Str) (cl : List (Str × Addr)) (pm cv ctv : Value), bindArgs (PySem.W.kla_fn "<lambda>" q ag bd ls cl pm cv ctv) ⟨[], []⟩ = pure [])
    (hbody : ∀ (A : Around) (outer : List Env) (s : Shared) (H : Hp) (E : XK) (f co : Addr), Room k (A.deeper (LamX.lamEnv X ls s.heap.objs.size f co)) → PE (nCx X A outer s H E ls f co) bd (t E)) :
    PE X (.Call (.Name "_law_refused" p) [.Lambda ag bd ls lpos] [] pos) (tRefd C0 [(P, ql ++ "<lambda>")] t) := by
  subst hql
  obtain ⟨oc, od, kV, doc, pm, an, cdv, ct, osl, rfl, lk, hcd⟩ := D.fn.ex
  refine ⟨fun pins s σ0 H Q I h => ?_⟩
  obtain ⟨hT, h⟩ := h
  refine wpAny_Call_Name_kw (ld_glob I hg D.mg_ ?_ (by decide))
  refine PySem.W.callWith_K (h₀ := X.base) I.ok.mod.kin D.fn.kp ?_ (by rfl) (by rfl)
  show wpAny _ _ (spliced ((false, eval (.Lambda ag bd ls lpos) X.env) :: backTo pos (starEach [] X.env))) _ _ s
  refine Calls.spliced_cons (LamX.lam_make2 I TB hcode (List.mem_singleton.mpr rfl) (fun y hy _ => by rw [List.mem_singleton.mp hy]) hT hdef (L.has I.ok) fun f co pm' ctv H1 s1 I1 eN T1 gf nf ff hco => ?_)
  refine Calls.spliced_nil ⟨I1.kIn, ?_⟩
  have ran : codeAny (model X.prog X.w) X.A (.call (.ref g) ⟨[.ref f], []⟩) (CR CX0 X.stack X.prog X.w H1 s1 Q E0) s1 := by
    refine LamX.run_ofS (N := ["_law_deed", "e", "_law_others"]) (ps := ["_law_deed"]) (us := [.ref f]) (vs := [.ref f]) lk hcd scRefd hr I1.env0 (D.bd s1 [.ref f] I1.kIn rfl) (.cons rfl .nil) rfl fun room => ?_
    refine ⟨_, (pss_cons (L2N.ps_try_as (X := (cxOf CX0 X.prog X.w X.K X.mg X.base ["_law_deed", "e", "_law_others"] "_law_refused" (defScope sRefused) g cdv X.A X.stack s1 H1 E0).nox) (i := 1) (c := .ref CL)
      (tb := fun W D' σ H' => ∃ E : XK, (∀ cl d σ' H', E cl d H' → W cl d σ' H') ∧ σ[0]? = some (some (.ref f)) ∧ H' co = some (LamX.CodeO co (X.env.qual ++ "<lambda>")) ∧ t E σ0 H' fun _ H2 => D'.nx σ H2)
      (ts := fun a cls d D' σ H' => cls = .ref C0 ∧ d = none ∧ (σ.length = 3 → σ[1]? = some (some (.ref a))) ∧ ∀ H2, Same H' H2 → D'.rt (.bl true) H2)
      rfl rfl scRefd.nd rfl rfl ⟨by rfl, by decide, .inl R.mL⟩ nTakes0 (fun W pn xe tk _ => ?_) (fun a oe cls d pn hz hf => ?_)) (pss_one (ps_ret pe_bl))).nox, ?_⟩
    · refine ⟨fun pz sz σz Hz Dz Iz h' => ?_⟩
      obtain ⟨E, tw, h1, h2, h3⟩ := h'
      exact (pss_one (ps_expr (pe_deed (CT := CX0) (ET := E0) (M := ["_law_deed", "e", "_law_others"]) (qn := "_law_refused") (ds := defScope sRefused) (nm := "_law_deed") I1 L gf nf ff (hbind _ _ _ _ _) tk tw room (fun A outer s H r => hbody A outer s H E f co r) rfl (.inl rfl) (by decide) (by decide)))).run pz sz σz Hz Dz Iz ⟨h1, h2, h3⟩
    · refine ⟨fun pz sz σz Hz Dz Iz h' => ?_⟩
      obtain ⟨rfl, rfl, h1, h2⟩ := h'
      obtain ⟨vs, hv⟩ := hf
      have hot : L2H.HotC ((cxOf CX0 X.prog X.w X.K X.mg X.base ["_law_deed", "e", "_law_others"] "_law_refused" (defScope sRefused) g cdv X.A X.stack s1 H1 E0).nox.suite a ((a, oe) :: pn)) := ⟨(a, oe), ⟨rfl, vs, hv, hz.2.2 vs hv⟩, List.mem_cons_self⟩
      have isE := call_isE (X := (cxOf CX0 X.prog X.w X.K X.mg X.base ["_law_deed", "e", "_law_others"] "_law_refused" (defScope sRefused) g cdv X.A X.stack s1 H1 E0).nox) (a := a) (oe := oe) (pn := pn) R.main.ex hz.zc ⟨vs, hv⟩
      have len : σz.length = 3 := Iz.len
      refine (pss_cons (ps_set (i := 2) scRefd.nd rfl (.inl rfl) (pe_lst (pa_cons (pe_callB isE (by rfl) R.isinstance bt_isinstance (pa_cons (pv 1) (pa_cons (pe_glob (v := .ref C1) (by rfl) R.m1 rfl) pa_nil)))
        (pa_cons (pe_callB isE (by rfl) R.isinstance bt_isinstance (pa_cons (pv 1) (pa_cons (pe_glob (v := .ref C2) (by rfl) R.m2 rfl) pa_nil)))
        (pa_cons (pe_callB isE (by rfl) R.isinstance bt_isinstance (pa_cons (pv 1) (pa_cons (pe_glob (v := .ref C3) (by rfl) R.m3 rfl) pa_nil))) pa_nil)))))
        (pss_one (ps_ret (pe_and (pe_callB isE (by rfl) R.isinstance bt_isinstance (pa_cons (pv 1) (pa_cons (pe_glob (v := .ref C0) (by rfl) R.m0 rfl) pa_nil)))
          (pe_and (pe_callB isE (by rfl) R.isinstance bt_isinstance (pa_cons (pv 1) (pa_cons (pe_bltn (v := .ty "ValueError") (by rfl) R.ve bt_ve rfl) pa_nil)))
          (pe_one (pe_not (pe_callB (any_hot hot) (by rfl) R.any bt_any (pa_cons (pv 2) pa_nil))))))))).run pz sz σz Hz Dz Iz ?_
      obtain ⟨x0, x1, x2, rfl⟩ : ∃ x0 x1 x2, σz = [x0, x1, x2] := by
        match σz, len with
        | [x0, x1, x2], _ => exact ⟨x0, x1, x2, rfl⟩
      have h1 := h1 len
      cases Option.some.inj h1
      refine ⟨.ref a, rfl, .ref C1, .ref C1, false, rfl, fun u r => r, R.k1, .ref a, rfl, .ref C2, .ref C2, false, rfl, fun u r => r, R.k2, .ref a, rfl, .ref C3, .ref C3, false, rfl, fun u r => r, R.k3, (by show 3 ≤ sizeLine; exact sl1000 (by decide)), fun q nq => ?_⟩
      refine ⟨.ref a, rfl, .ref C0, .ref C0, true, rfl, fun u r => r, R.k0, true, rfl, ?_⟩
      refine iteT ?_
      refine ⟨.ref a, rfl, .ty "ValueError", .type "ValueError", true, rfl, fun u r => r, R.kv, true, rfl, ?_⟩
      refine iteT ?_
      exact ⟨.ref q, rfl, q, [false, false, false], rfl, SqL.of upd_same, false, rfl, h2 _ (same_new nq _)⟩
    · refine ⟨fun cls d H' => cls = .ref C0 ∧ d = none ∧ ∀ H2, Same H' H2 → Q (.bl true) H2, fun cl d σ' H' e => ?_, rfl, hco, h H1 eN T1⟩
      obtain ⟨rfl, rfl, e⟩ := e
      refine ⟨true, R.cl, fun _ a _ => ⟨rfl, rfl, fun l => ?_, e⟩, fun z => nomatch z⟩
      rw [List.length_set] at l
      rw [List.getElem?_set_self (by omega)]
  refine wpAny_call (codeAny_mono ran fun r s2 hq => ?_)
  cases r with
  | error e => exact (show False from hq).elim
  | ok fl =>
    cases fl with
    | ret u => exact I1.after hq
    | next => exact False.elim hq
    | brk => exact False.elim hq
    | cont => exact False.elim hq
end Lm
set_option Elab.async false
set_option linter.all false
set_option maxRecDepth 100000
set_option maxHeartbeats 2000000
namespace Lm
open PySem PySem.Spec PyProof.Rows L2
/-! ### what is a formula, told back -/
theorem arity_of {x : Str} {k : Int} (h : arOf x = some k) : (x = ("not" : Str) ∧ k = 1) ∨ ∃ b : Bw, x = b.txt ∧ k = 2 := by
  unfold arOf at h
  split at h
  · rename_i e; cases h; exact .inl ⟨e, rfl⟩
  · split at h
    · rename_i e; cases h; exact .inr ⟨.an, e, rfl⟩
    · split at h
      · rename_i e; cases h; exact .inr ⟨.o, e, rfl⟩
      · split at h
        · rename_i e; cases h; exact .inr ⟨.th, e, rfl⟩
        · cases h
theorem isF_back : ∀ (n : Nat) (d : PyData), isF n d = true → ∃ f : Fm, d = f.toD ∧ f.good ∧ f.dep ≤ n
  | 0, d, h => by rw [isF_zero] at h; cases h
  | n + 1, d, h => by
    cases d with
    | tuple ds =>
      cases ds with
      | nil => cases h
      | cons w ds =>
        cases w with
        | str x =>
          rw [isF] at h
          split at h
          · rename_i e
            subst e
            have h : sgOf ds = true := h
            cases ds with
            | nil => cases h
            | cons y t =>
              cases t with
              | cons _ _ => cases h
              | nil =>
                cases y with
                | int i =>
                  have h : (decide (0 ≤ i) && decide (i ≤ 99)) = true := h
                  rw [Bool.and_eq_true, decide_eq_true_eq, decide_eq_true_eq] at h
                  exact ⟨.sg i, rfl, h, (by show 1 ≤ n + 1; omega)⟩
                | _ => cases h
          · split at h
            · cases h
            · rename_i k e
              rw [Bool.and_eq_true, decide_eq_true_eq] at h
              obtain ⟨hl, ha⟩ := h
              rcases arity_of e with ⟨rfl, rfl⟩ | ⟨b, rfl, rfl⟩
              · match ds, hl, ha with
                | [y], _, ha =>
                  simp only [List.map_cons, List.map_nil, List.all_cons, List.all_nil, Bool.and_true, id] at ha
                  obtain ⟨f, rfl, g1, g2⟩ := isF_back n y ha
                  exact ⟨.no f, rfl, g1, (by show f.dep + 1 ≤ n + 1; omega)⟩
                | [], hl, _ => exact absurd hl (by show ¬ ((1 : Nat) : Int) = 1 + 1; decide)
                | _ :: _ :: t, hl, _ => exact absurd hl (by rw [List.length_cons, List.length_cons]; omega)
              · match ds, hl, ha with
                | [y, z], _, ha =>
                  simp only [List.map_cons, List.map_nil, List.all_cons, List.all_nil, Bool.and_true, id, Bool.and_eq_true] at ha
                  obtain ⟨f, rfl, g1, g2⟩ := isF_back n y ha.1
                  obtain ⟨g, rfl, k1, k2⟩ := isF_back n z ha.2
                  exact ⟨.bi b f g, rfl, ⟨g1, k1⟩, (by show max f.dep g.dep + 1 ≤ n + 1; omega)⟩
                | [], hl, _ => exact absurd hl (by show ¬ ((1 : Nat) : Int) = 1 + 2; decide)
                | [_], hl, _ => exact absurd hl (by show ¬ ((2 : Nat) : Int) = 1 + 2; decide)
                | _ :: _ :: _ :: t, hl, _ => exact absurd hl (by rw [List.length_cons, List.length_cons, List.length_cons]; omega)
        | _ => cases h
    | _ => cases h
/-! ### defs that raise -/
section
variable {P : Program} {w : World} {K : PySem.W.Frag} {mg : Str → Option Value} {base : Heap} {f : Addr} {fd : FuncData}
theorem fun_okN {x qual : Str} {st : Stmt} {N ps : List Str} {k : Nat} {sp : Sp} (F : Fun K x qual st f fd) (S : FnScope N ps (defScope st)) (len : ∀ vs H Q E, sp vs H Q E → vs.length = ps.length)
    (bd : ∀ (cv : Value) (A : Around) (outer : List Env) (s : Shared) (H : Hp) (vs : List V) (Q : VK) (E : XK), Room k (A.deeper (envOfC qual (defScope st) s.heap.objs.size f cv)) → sp vs H Q E →
      ∃ t, PSs (cxOf (L2N.CX P w) P w K mg base N qual (defScope st) f cv A outer s H E) (defBody st) t ∧ t { nx := fun _ H' => Q .non H', rt := Q } (L2.start N vs) H) : FnOk P w K mg base (L2N.CX P w) (k + 1) f fd ps sp := by
  obtain ⟨oc, od, kV, doc, pm, an, cv, ct, osl, rfl, lk, hcd⟩ := F.ex
  exact fn_of lk hcd S len fun A outer s H vs Q E hr h => bd cv A outer s H vs Q E hr h
/-- callable by its name; what it raises has no context -/
def HasN (P : Program) (w : World) (K : PySem.W.Frag) (mg : Str → Option Value) (base : Heap) (k : Nat) (x : Str) (ps : List Str) (sp : Sp) : Prop :=
  ∃ f fd, FnOk P w K mg base (L2N.CX P w) k f fd ps sp ∧ Binds K fd ps [] ∧ mg x = some (.ref f) ∧ PySem.W.keepIn K (.ref f) = true
theorem Df.hasN {k : Nat} {x : Str} {st : Stmt} {ps : List Str} {sp : Sp} (D : Df K mg x st ps f fd) (F : FnOk P w K mg base (L2N.CX P w) k f fd ps sp) : HasN P w K mg base k x ps sp := ⟨f, fd, F, D.bd, D.mg_, D.fn.kp⟩
/-- where it raises nothing -/
theorem HasN.calm {k : Nat} {x : Str} {ps : List Str} {sp sp0 : Sp} (h : HasN P w K mg base k x ps sp) (i : ∀ vs H Q E, sp0 vs H Q E → sp vs H Q E0) : Has P w K mg base k x ps sp0 := by
  obtain ⟨f, fd, F, b, m, kp⟩ := h
  refine ⟨f, fd, ⟨fun vs H Q E q => F.len vs H Q E0 (i _ _ _ _ q), fun A outer s H args us vs Q E hr e0 hb hv hs => codeAny_mono (F.run A outer s H args us vs Q E0 hr e0 hb hv (i _ _ _ _ hs)) fun r s' z => ?_⟩, b, m, kp⟩
  cases r with
  | error e =>
    obtain ⟨_, _, _, _, _, _, _, _, _, _, _, _, no⟩ := (show L2N.CX P w outer H s E0 e s' from z)
    exact no.elim
  | ok fl =>
    cases fl with
    | ret u => exact z
    | next => exact z
    | brk => exact z
    | cont => exact z
theorem pe_callN {X : Cx} {k : Nat} {x : Str} {ps : List Str} {sp : Sp} {W : WX} {E : XK} {p pos : Pos} {e : Expr} {es : List Expr} {t : TA} (h : HasN X.prog X.w X.K X.mg X.base k x ps sp) (tk : L2N.Takes X W) (tw : ∀ c d σ H, E c d H → W c d σ H) (hr : Room k X.A) (hg : Gl X x) (ha : PA X (e :: es) t)
    (hdb : (x == ("__debug__" : Str)) = false := by decide) (he : starEach (e :: es) X.env = (false, eval e X.env) :: starEach es X.env := by rfl) (hpl : (backTo pos (starEach es X.env)).any (·.1) = false := by rfl) : PE X (.Call (.Name x p) (e :: es) [] pos) (tCall sp [] E t) := by
  obtain ⟨f, fd, F, b, m, kp⟩ := h
  exact pe_call F hr hg m kp b .nil (L2N.passes_call tk tw) ha hdb he hpl
def spRefuse (K : PySem.W.Frag) (C0 : Addr) : Sp := fun vs H Q E => ∃ v d, vs = [v] ∧ Dp K H v d ∧ (isF 12 d = true → ∀ H', Same H H' → Q .non H') ∧ (isF 12 d = false → ∀ H', Same H H' → E (.ref C0) none H')
def spTruthN (K : PySem.W.Frag) (C0 : Addr) : Sp := fun vs H Q E => ∃ (v : V) (d : PyData) (a : Addr) (ns : List Int), vs = [v, .ref a] ∧ Dp K H v d ∧ SqL K H a (ns.map V.int) ∧ ns.length ≤ 1000 ∧
  (∀ g : Fm, d = g.toD → g.good → g.dep ≤ 12 → ∀ H', Same H H' → Q (.bl (g.tr fun i => decide (i ∈ ns))) H') ∧ (isF 12 d = false → ∀ H', Same H H' → E (.ref C0) none H')
def spPartsN (K : PySem.W.Frag) (C0 : Addr) : Sp := fun vs H Q E => ∃ (v : V) (d : PyData), vs = [v] ∧ Dp K H v d ∧
  (∀ g : Fm, d = g.toD → g.good → g.dep ≤ 12 → ∀ (r : Addr) (H' : Hp) (ys : List V), Same H H' → H' r = some (.lst ys) → DpAll K H' ys ((findP g []).map Fm.toD) → Q (.ref r) H') ∧ (isF 12 d = false → ∀ H', Same H H' → E (.ref C0) none H')
theorem ok_refuse {C0 : Addr} (D : Df K mg "refuse_no_formula" sRefuse ["thing"] f fd) (G : Has P w K mg base 16 "is_formula" ["thing"] (spIsFormula K)) (B : ErrK K C0) (mB : mg "BadFormula" = some (.ref C0)) : FnOk P w K mg base (L2N.CX P w) 17 f fd ["thing"] (spRefuse K C0) := by
  refine fun_okN D.fn scRefuse (fun vs H Q E h => ?_) (fun cv A outer s H vs Q E hr h => ?_)
  · obtain ⟨v, d, rfl, _⟩ := h
    rfl
  obtain ⟨v, d, rfl, hd, q1, q2⟩ := h
  refine ⟨_, pss_one (ps_if (pt_not (pt_val (pe_callH G hr (by rfl) (pa_cons (pv 0) pa_nil)))) (pss_one (L2N.ps_raise rfl (L2N.takes_of rfl rfl rfl rfl) (L2N.pmk_own PySem.F.excBase_ValueError B.new mB B.kp (raises_own B.ex.hs B.ty) (by rfl)))) pss_nil), ?_⟩
  refine ⟨v, rfl, v, d, rfl, hd, fun H' e => ⟨isF 12 d, rfl, ?_⟩⟩
  cases c : isF 12 d with
  | true => exact iteF (q1 c H' e)
  | false => exact iteT (q2 c H' e)
theorem ok_truthN {C0 : Addr} (D : Df K mg "truth" sTruth ["f", "world"] f fd) (R : HasN P w K mg base 17 "refuse_no_formula" ["thing"] (spRefuse K C0)) (N : Has P w K mg base 1 "is_number" ["thing"] (spIsNum K)) (G : Has P w K mg base 14 "_is_true" ["f", "true_signs"] (spIsTrue K 13)) :
    FnOk P w K mg base (L2N.CX P w) 18 f fd ["f", "world"] (spTruthN K C0) := by
  refine fun_okN D.fn scTruth (fun vs H Q E h => ?_) (fun cv A outer s H vs Q E hr h => ?_)
  · obtain ⟨v, d, a, ns, rfl, _⟩ := h
    rfl
  obtain ⟨v, d, a, ns, rfl, hd, hs, hl, q1, q2⟩ := h
  refine ⟨_, pss_cons (ps_expr (pe_callN (E := E) R (L2N.takes_of rfl rfl rfl rfl) (fun _ _ _ _ h => h) hr (by rfl) (pa_cons (pv 0) pa_nil)))
    (pss_one (ps_ret (pe_callH G (hr.mono (by decide)) (by rfl) (pa_cons (pv 0) (pa_cons (pe_dc (own := [("n", 2)]) (g := gName 2) rfl scTruth.nd (pi_list (pv 1))
      (blkOk_by (N := ["f", "world", "n"]) (sc := defScope sTruth) (by decide +kernel)) (fun _ _ _ _ _ => pg_name (i := 2) scTruth.nd rfl (Or.inl rfl))
      (fun _ _ _ _ _ => pts_one (pt_val (pe_callH N (hr.mono (by decide)) (by rfl) (pa_cons (pv 2) pa_nil)))) (fun _ _ _ _ _ => pv 2) (fun _ _ _ _ _ => pe_bl)) pa_nil))))), ?_⟩
  refine ⟨v, rfl, v, d, rfl, hd, fun c H1 e1 => ?_, q2⟩
  obtain ⟨g, rfl, hg, h12⟩ := isF_back 12 d c
  have q := q1 g rfl hg h12
  refine ⟨v, rfl, .ref a, rfl, a, rfl, ⟨_, e1.seq hs⟩, fun L nL => ?_⟩
  refine dc_list (K := K) (a := a) (xs := ns.map V.int) (fun i H' => Same H1 H' ∧ ∃ kvs : List (Key × V), H' L = some (.dK kvs) ∧ kvs.length ≤ i ∧ i ≤ 1000 ∧ ∀ j : Int, (valV kvs (Sum.inl j)).isSome = decide (j ∈ ns.take i))
    ⟨same_new nL _, [], upd_same, Nat.le_refl _, by decide, fun j => by simp [valV_nil]⟩ (fun i H' _ p => p.1.seq (e1.seq hs)) (fun i x H' hi p => ?_) (fun H' p => ?_)
  · obtain ⟨e2, kvs, h2, l2, i2, m2⟩ := p
    obtain ⟨z, hz, rfl⟩ : ∃ z, ns[i]? = some z ∧ x = V.int z := by
      rw [List.getElem?_map] at hi
      cases e : ns[i]? with
      | none => rw [e] at hi; cases hi
      | some z => rw [e] at hi; exact ⟨z, rfl, (Option.some.inj hi).symm⟩
    have hi2 : i < ns.length := (List.getElem?_eq_some_iff.mp hz).1
    refine ⟨wipe1 _ _ _, ?_⟩
    refine ⟨.int z, rfl, .int z, .int z, rfl, .int z, true, rfl, ?_⟩
    refine ⟨.int z, rfl, kvs, Sum.inl z, rfl, h2, sl1001 (by omega), same_upd e2 nL, _, upd_same, ?_, by omega, fun j => ?_⟩
    · have := length_putK kvs (Sum.inl z) (V.bl true)
      omega
    · rw [valV_put, List.take_succ, hz]
      by_cases e : j = z
      · subst e
        rw [if_pos rfl]
        have : j ∈ ns.take i ++ (some j).toList := List.mem_append_right _ (by simp)
        rw [decide_eq_true this]
        rfl
      · have ne : ¬ (Sum.inl j : Key) = Sum.inl z := fun y => e (Sum.inl.inj y)
        rw [if_neg ne, m2 j]
        by_cases mm : j ∈ ns.take i
        · have : j ∈ ns.take i ++ (some z).toList := List.mem_append_left _ mm
          rw [decide_eq_true mm, decide_eq_true this]
        · have : ¬ j ∈ ns.take i ++ (some z).toList := fun y => by
            rcases List.mem_append.mp y with y | y
            · exact mm y
            · exact e (by simpa using y)
          rw [decide_eq_false mm, decide_eq_false this]
  · obtain ⟨e2, kvs, h2, _, _, m2⟩ := p
    rw [List.length_map, List.take_length] at m2
    refine ⟨v, g, L, kvs, fun j => decide (j ∈ ns), rfl, dp_same (e1.trans e2) _ _ hd, by omega, h2, m2, fun H'' e3 => ?_⟩
    exact q H'' (e1.trans (e2.trans e3))
theorem ok_partsN {C0 : Addr} (D : Df K mg "parts" sParts ["f"] f fd) (B : Blt mg) (R : HasN P w K mg base 17 "refuse_no_formula" ["thing"] (spRefuse K C0)) (G : Has P w K mg base 27 "_find_parts" ["f", "found"] (spFind K 13)) : FnOk P w K mg base (L2N.CX P w) 28 f fd ["f"] (spPartsN K C0) := by
  refine fun_okN D.fn scParts (fun vs H Q E h => ?_) (fun cv A outer s H vs Q E hr h => ?_)
  · obtain ⟨v, d, rfl, _⟩ := h
    rfl
  obtain ⟨v, d, rfl, hd, q1, q2⟩ := h
  refine ⟨_, pss_cons (ps_expr (pe_callN (E := E) R (L2N.takes_of rfl rfl rfl rfl) (fun _ _ _ _ h => h) (hr.mono (by decide)) (by rfl) (pa_cons (pv 0) pa_nil)))
    (pss_cons (ps_set (i := 1) scParts.nd rfl (.inl rfl) pe_dnewK)
    (pss_cons (ps_expr (pe_callH G hr (by rfl) (pa_cons (pv 0) (pa_cons (pv 1) pa_nil))))
    (pss_one (ps_ret (pe_listVals rfl (pv 1) (by rfl) B.list bt_list))))), ?_⟩
  refine ⟨v, rfl, v, d, rfl, hd, fun c H1 e1 => ?_, q2⟩
  obtain ⟨g, rfl, hg, h12⟩ := isF_back 12 d c
  have sz := Fm.size_dep g
  have pw : 2 ^ g.dep ≤ 2 ^ 12 := Nat.pow_le_pow_right (by decide) h12
  have e12 : (2 : Nat) ^ 12 = 4096 := by decide
  intro a na
  have s2 : Same H1 (upd H1 a (.dK [])) := same_new na _
  refine ⟨v, rfl, .ref a, rfl, v, g, a, [], [], rfl, fm_keep (Tk.of_same (e1.trans s2)) g v hd, hg, h12, by omega, upd_same, .nil, (fun _ h => nomatch h), by show 0 + g.size ≤ 10000; omega, fun H2 kvs b h2 f2 => ?_⟩
  refine ⟨.ref a, rfl, a, kvs, rfl, h2, fun p np => ?_⟩
  have e2 : Same H1 H2 := fun x o h => b x o (s2 x o h) (ne_of_none h na)
  refine q1 g rfl hg h12 p _ (kvs.map (·.2)) (e1.trans (e2.trans (same_new np _))) upd_same ?_
  exact fms_keep (Tk.of_same (same_new np _)) _ _ (found_vals f2)
end
end Lm
set_option Elab.async false
set_option linter.all false
set_option maxRecDepth 100000
set_option maxHeartbeats 2000000
namespace Lm
open PySem PySem.Spec PyProof.Rows L2
/-! ### displayed data -/
/-- te gives the data d and changes nothing that stood, from H on -/
def GvE (K : PySem.W.Frag) (te : TE) (σ : L2.St) (H : Hp) (d : PyData) : Prop := ∀ H', Same H H' → ∀ Q : VK, (∀ v H'', Same H' H'' → Dp K H'' v d → Q v H'') → te σ H' Q
def GvA (K : PySem.W.Frag) (ta : TA) (σ : L2.St) (H : Hp) (ds : List PyData) : Prop := ∀ H', Same H H' → ∀ Q : List V → Hp → Prop, (∀ vs H'', Same H' H'' → DpAll K H'' vs ds → Q vs H'') → ta σ H' Q
section
variable {K : PySem.W.Frag} {σ : L2.St} {H : Hp} {te : TE} {ta : TA} {d : PyData} {ds : List PyData}
theorem gv_nil : GvA K tNil σ H [] := fun H' e Q q => q [] H' (Same.refl _) .nil
theorem gv_cons (h1 : GvE K te σ H d) (h2 : GvA K ta σ H ds) : GvA K (tCons te ta) σ H (d :: ds) := fun H' e Q q =>
  h1 H' e _ fun v H1 e1 hv => h2 H1 (e.trans e1) _ fun vs H2 e2 hvs => q (v :: vs) H2 (e1.trans e2) (.cons (dp_same e2 _ _ hv) hvs)
theorem gv_tup (h : GvA K ta σ H ds) (hl : ds.length ≤ 1000) : GvE K (tTup ta) σ H (.tuple ds) := fun H' e Q q =>
  h H' e _ fun vs H1 e1 hvs => ⟨sl1000 (by rw [dpAll_len hvs]; omega), fun p np => q (.ref p) _ (e1.trans (same_new np _)) (.tup (SqT.of upd_same) (dpAll_same (same_new np _) _ _ hvs))⟩
theorem gv_lst (h : GvA K ta σ H ds) (hl : ds.length ≤ 1000) : GvE K (tLst ta) σ H (.list ds) := fun H' e Q q =>
  h H' e _ fun vs H1 e1 hvs => ⟨sl1000 (by rw [dpAll_len hvs]; omega), fun p np => q (.ref p) _ (e1.trans (same_new np _)) (.lst (SqL.of upd_same) (dpAll_same (same_new np _) _ _ hvs))⟩
theorem gv_str (x : Str) : GvE K (tC (.str x)) σ H (.str x) := fun H' _ Q q => q _ H' (Same.refl _) (.str x)
theorem gv_int (i : Int) : GvE K (tC (.int i)) σ H (.int i) := fun H' _ Q q => q _ H' (Same.refl _) (.int i)
theorem gv_bl (b : Bool) : GvE K (tC (.bl b)) σ H (.bool b) := fun H' _ Q q => q _ H' (Same.refl _) (.bl b)
theorem gv_non : GvE K (tC .non) σ H .none := fun H' _ Q q => q _ H' (Same.refl _) .non
theorem gv_var {i : Nat} {v : V} (h : σ[i]? = some (some v)) (hd : Dp K H v d) : GvE K (tVar i) σ H d := fun H' e Q q => ⟨v, h, q v H' (Same.refl _) (dp_same e _ _ hd)⟩
/-- a number that is reckoned -/
theorem gv_num {i : Int} (h : ∀ (H' : Hp) (Q : VK), Q (.int i) H' → te σ H' Q) : GvE K te σ H (.int i) := fun H' _ Q q => h H' Q (q _ H' (Same.refl _) (.int i))
theorem gv_txt {x : Str} (h : ∀ (H' : Hp) (Q : VK), Q (.str x) H' → te σ H' Q) : GvE K te σ H (.str x) := fun H' _ Q q => h H' Q (q _ H' (Same.refl _) (.str x))
/-- the rest behind it -/
theorem GvE.at (h : GvE K te σ H d) {Q : VK} (q : ∀ v H'', Same H H'' → Dp K H'' v d → Q v H'') : te σ H Q := h H (Same.refl _) Q q
end
/-! ### the law's things -/
def badS (n : Int) : PyData := .tuple [.str ("sign" : Str), .int (n % 100)]
def bads1 (n : Int) : List PyData := [.tuple [.str ("sign" : Str), .int (100 + n % 10 ^ (20 : Int).toNat)], .tuple [.str ("sign" : Str), .int (0 - 1 - n % 10 ^ (20 : Int).toNat)], .tuple [.str ("sign" : Str), .bool true], .tuple [.str ("sign" : Str), .str (toString (n % 100))]]
def bads2 (n : Int) : List PyData := [.tuple [.str ("sign" : Str)], .tuple [.str ("sign" : Str), .int (n % 100), .int (n % 100)], .list [.str ("sign" : Str), .int (n % 100)], .tuple [.str ("not" : Str)], .tuple [.str ("not" : Str), badS n, badS n], .tuple [.str ("and" : Str), badS n]]
def bads3 (n : Int) : List PyData := [.tuple [.str ("or" : Str), badS n, badS n, badS n], .tuple [.str ("Not" : Str), badS n], .tuple [.str ("" : Str), badS n], .tuple [.none, badS n], .tuple [], .none, .int (n % 100), .str ("sign" : Str), .tuple [.str ("xor" : Str), badS n, badS n]]
def bads4 (n : Int) : List PyData := [.tuple [.str ("not" : Str), .int (n % 100)], .tuple [.str ("then" : Str), badS n, .tuple []], .tuple [.str ("and" : Str), .list [.str ("sign" : Str), .int 1], badS n], .tuple [badS n, badS n], .tuple [.str ("sign" : Str), badS n]]
def badsD (n : Int) : List PyData := bads1 n ++ (bads2 n ++ (bads3 n ++ bads4 n))
theorem pow20 : (0 : Int) < 10 ^ (20 : Int).toNat := by decide
/-- what is never a formula -/
def Nev (d : PyData) : Prop := ∀ k, isF k d = false
theorem nev_sign {ds : List PyData} (h : sgOf ds = false) : Nev (.tuple (.str ("sign" : Str) :: ds)) := fun k => by
  cases k with
  | zero => rfl
  | succ k => rw [isF, if_pos rfl, h]
theorem nev_word {x : Str} {ds : List PyData} (e : ¬ x = ("sign" : Str)) (h : arOf x = none) : Nev (.tuple (.str x :: ds)) := fun k => by
  cases k with
  | zero => rfl
  | succ k => rw [isF, if_neg e, h]
theorem nev_many {x : Str} {ds : List PyData} {k : Int} (e : ¬ x = ("sign" : Str)) (h : arOf x = some k) (l : ¬ ((ds.length + 1 : Nat) : Int) = 1 + k) : Nev (.tuple (.str x :: ds)) := fun m => by
  cases m with
  | zero => rfl
  | succ m =>
    rw [isF, if_neg e, h]
    show (decide (((ds.length + 1 : Nat) : Int) = 1 + k) && _) = false
    rw [decide_eq_false l, Bool.false_and]
theorem nev_in {x : Str} {ds : List PyData} {y : PyData} (e : ¬ x = ("sign" : Str)) (hy : Nev y) (m : y ∈ ds) : Nev (.tuple (.str x :: ds)) := fun k => by
  cases k with
  | zero => rfl
  | succ k =>
    rw [isF, if_neg e]
    cases arOf x with
    | none => rfl
    | some z =>
      show (decide (((ds.length + 1 : Nat) : Int) = 1 + z) && _) = false
      have : (ds.map (isF k)).all id = false := by
        rw [List.all_eq_false]
        exact ⟨isF k y, List.mem_map_of_mem m, by rw [hy k]; decide⟩
      rw [this, Bool.and_false]
theorem nev_none : Nev .none := fun k => by cases k <;> rfl
theorem nev_int (i : Int) : Nev (.int i) := fun k => by cases k <;> rfl
theorem nev_str (i : Str) : Nev (.str i) := fun k => by cases k <;> rfl
theorem nev_list (ds : List PyData) : Nev (.list ds) := fun k => by cases k <;> rfl
theorem nev_nil : Nev (.tuple []) := fun k => by cases k <;> rfl
theorem nev_headN (ds : List PyData) : Nev (.tuple (.none :: ds)) := fun k => by cases k <;> rfl
theorem nev_headT (es ds : List PyData) : Nev (.tuple (.tuple es :: ds)) := fun k => by cases k <;> rfl
theorem ne_not : ¬ ("not" : Str) = ("sign" : Str) := by decide +kernel
theorem ne_and : ¬ ("and" : Str) = ("sign" : Str) := by decide +kernel
theorem ne_or : ¬ ("or" : Str) = ("sign" : Str) := by decide +kernel
theorem ne_then : ¬ ("then" : Str) = ("sign" : Str) := by decide +kernel
theorem ar_not : arOf ("not" : Str) = some 1 := by decide +kernel
theorem ar_and : arOf ("and" : Str) = some 2 := by decide +kernel
theorem ar_or : arOf ("or" : Str) = some 2 := by decide +kernel
theorem bads_nev (n : Int) : ∀ d ∈ badsD n, Nev d := by
  have p := pow20
  have m0 : 0 ≤ n % 10 ^ (20 : Int).toNat := Int.emod_nonneg n (Int.ne_of_gt p)
  intro d hd
  rcases List.mem_append.mp hd with h | hd
  · simp only [bads1, List.mem_cons, List.not_mem_nil, or_false] at h
    rcases h with rfl | rfl | rfl | rfl
    · refine nev_sign ?_
      show (decide (0 ≤ 100 + n % 10 ^ (20 : Int).toNat) && decide (100 + n % 10 ^ (20 : Int).toNat ≤ 99)) = false
      rw [decide_eq_false (p := 100 + n % 10 ^ (20 : Int).toNat ≤ 99) (by omega), Bool.and_false]
    · refine nev_sign ?_
      show (decide (0 ≤ 0 - 1 - n % 10 ^ (20 : Int).toNat) && _) = false
      rw [decide_eq_false (p := 0 ≤ 0 - 1 - n % 10 ^ (20 : Int).toNat) (by omega), Bool.false_and]
    · exact nev_sign rfl
    · exact nev_sign rfl
  rcases List.mem_append.mp hd with h | hd
  · simp only [bads2, List.mem_cons, List.not_mem_nil, or_false] at h
    rcases h with rfl | rfl | rfl | rfl | rfl | rfl
    · exact nev_sign rfl
    · exact nev_sign rfl
    · exact nev_list _
    · exact nev_many ne_not ar_not (by decide)
    · exact nev_many ne_not ar_not (by show ¬ ((3 : Nat) : Int) = 1 + 1; decide)
    · exact nev_many ne_and ar_and (by show ¬ ((2 : Nat) : Int) = 1 + 2; decide)
  rcases List.mem_append.mp hd with h | h
  · simp only [bads3, List.mem_cons, List.not_mem_nil, or_false] at h
    rcases h with rfl | rfl | rfl | rfl | rfl | rfl | rfl | rfl | rfl
    · exact nev_many ne_or ar_or (by show ¬ ((4 : Nat) : Int) = 1 + 2; decide)
    · exact nev_word (by decide +kernel) (by decide +kernel)
    · exact nev_word (by decide +kernel) (by decide +kernel)
    · exact nev_headN _
    · exact nev_nil
    · exact nev_none
    · exact nev_int _
    · exact nev_str _
    · exact nev_word (by decide +kernel) (by decide +kernel)
  · simp only [bads4, List.mem_cons, List.not_mem_nil, or_false] at h
    rcases h with rfl | rfl | rfl | rfl | rfl
    · exact nev_in ne_not (nev_int _) List.mem_cons_self
    · exact nev_in ne_then nev_nil (List.mem_cons_of_mem _ List.mem_cons_self)
    · exact nev_in ne_and (nev_list _) List.mem_cons_self
    · exact nev_headT _ _
    · exact nev_sign rfl
/-- just formulas of at most n within one another -/
theorem toD_inj : ∀ {f g : Fm}, f.toD = g.toD → f = g
  | .sg i, .sg j, h => by
    have h : PyData.tuple [.str ("sign" : Str), .int i] = .tuple [.str ("sign" : Str), .int j] := h
    cases h
    rfl
  | .sg i, .no f, h => by
    have h : PyData.tuple [.str ("sign" : Str), .int i] = .tuple [.str ("not" : Str), f.toD] := h
    injection h with h
    injection h with h1 h2
    injection h1 with h1
    exact absurd h1.symm ne_not
  | .sg i, .bi w f g, h => by
    have h : PyData.tuple [.str ("sign" : Str), .int i] = .tuple [.str w.txt, f.toD, g.toD] := h
    injection h with h
    injection h with h1 h2
    injection h1 with h1
    exact absurd h1.symm (txt_sign w)
  | .no f, .sg i, h => by
    have h : PyData.tuple [.str ("not" : Str), f.toD] = .tuple [.str ("sign" : Str), .int i] := h
    injection h with h
    injection h with h1 h2
    injection h1 with h1
    exact absurd h1 ne_not
  | .no f, .no g, h => by
    have h : PyData.tuple [.str ("not" : Str), f.toD] = .tuple [.str ("not" : Str), g.toD] := h
    injection h with h
    injection h with h1 h2
    injection h2 with h2
    rw [toD_inj h2]
  | .no f, .bi w g k, h => by
    have h : PyData.tuple [.str ("not" : Str), f.toD] = .tuple [.str w.txt, g.toD, k.toD] := h
    injection h with h
    injection h with h1 h2
    injection h2 with h2 h3
    cases h3
  | .bi w f g, .sg i, h => by
    have h : PyData.tuple [.str w.txt, f.toD, g.toD] = .tuple [.str ("sign" : Str), .int i] := h
    injection h with h
    injection h with h1 h2
    injection h1 with h1
    exact absurd h1 (txt_sign w)
  | .bi w f g, .no k, h => by
    have h : PyData.tuple [.str w.txt, f.toD, g.toD] = .tuple [.str ("not" : Str), k.toD] := h
    injection h with h
    injection h with h1 h2
    injection h2 with h2 h3
    cases h3
  | .bi w f g, .bi w' f' g', h => by
    have h : PyData.tuple [.str w.txt, f.toD, g.toD] = .tuple [.str w'.txt, f'.toD, g'.toD] := h
    injection h with h
    injection h with h1 h2
    injection h1 with h1
    injection h2 with h2 h3
    injection h3 with h3 _
    have ew : w = w' := by
      cases w <;> cases w' <;> first | rfl | exact absurd h1 (by decide +kernel)
    rw [ew, toD_inj h2, toD_inj h3]
theorem isF_fm {f : Fm} (h : f.good) (n : Nat) : isF n f.toD = decide (f.dep ≤ n) := by
  by_cases hd : f.dep ≤ n
  · rw [decide_eq_true hd]
    exact isF_toD f n h hd
  · rw [decide_eq_false hd]
    cases e : isF n f.toD with
    | false => rfl
    | true =>
      obtain ⟨g, e1, _, e2⟩ := isF_back n _ e
      rw [toD_inj e1] at hd
      exact absurd e2 hd
end Lm
set_option Elab.async false
set_option linter.all false
set_option maxRecDepth 100000
set_option maxHeartbeats 400000
namespace Lm
open PySem PySem.Spec PyProof.Rows L2
theorem at_ints {zs : List Int} {i : Int} (h0 : 0 ≤ i) (h1 : i < (zs.length : Int)) : ∃ z ∈ zs, atI (zs.map V.int) i = some (.int z) := by
  obtain ⟨j, rfl⟩ := Int.eq_ofNat_of_zero_le h0
  have hj : j < zs.length := by omega
  refine ⟨zs[j], List.getElem_mem hj, atI_nat ?_⟩
  rw [List.getElem?_map, List.getElem?_eq_getElem hj]
  rfl
theorem at_any {zs : List V} {i : Int} (h0 : 0 ≤ i) (h1 : i < (zs.length : Int)) : ∃ z ∈ zs, atI zs i = some z := by
  obtain ⟨j, rfl⟩ := Int.eq_ofNat_of_zero_le h0
  have hj : j < zs.length := by omega
  exact ⟨zs[j], List.getElem_mem hj, atI_nat (List.getElem?_eq_getElem hj)⟩
theorem mod_lo (a : Int) {b : Int} (h : 0 < b) : 0 ≤ a % b := Int.emod_nonneg a (by omega)
theorem mod_hi (a : Int) {b : Int} (h : 0 < b) : a % b < b := Int.emod_lt_of_pos a h
theorem lit3 (i : Int) : ∃ b : Bw, atI [V.str ("and" : Str), V.str ("or" : Str), V.str ("then" : Str)] (i % 3) = some (.str b.txt) := by
  obtain ⟨z, hz, e⟩ := at_any (zs := [V.str ("and" : Str), V.str ("or" : Str), V.str ("then" : Str)]) (mod_lo i (by decide : (0 : Int) < 3)) (mod_hi i (by decide : (0 : Int) < 3))
  rw [e]
  rcases List.mem_cons.mp hz with rfl | hz
  · exact ⟨.an, rfl⟩
  · rcases List.mem_cons.mp hz with rfl | hz
    · exact ⟨.o, rfl⟩
    · rw [List.mem_singleton.mp hz]
      exact ⟨.th, rfl⟩
section
variable (K : PySem.W.Frag)
def spCellA : Sp := fun vs H Q _ => ∃ (a : Addr) (ns : List Int) (k : Int), vs = [.ref a, .int k] ∧ SqL K H a (ns.map V.int) ∧ ns.length ≤ 63 ∧ 0 ≤ k ∧ ∀ z : Int, Q (.int z) H
end
section
variable {P : Program} {w : World} {K : PySem.W.Frag} {mg : Str → Option Value} {base : Heap} {f : Addr} {fd : FuncData}
theorem scCell : FnScope ["_law_script", "_law_k"] ["_law_script", "_law_k"] (defScope sCell) := ⟨rfl, rfl, rfl, by decide +kernel, rfl, by decide +kernel, by decide +kernel⟩
theorem ok_cell (D : Df K mg "_law_cell_at" sCell ["_law_script", "_law_k"] f fd) (B : Blt mg) : FnOk P w K mg base CX0 1 f fd ["_law_script", "_law_k"] (spCellA K) := by
  refine D.fn.ok scCell (fun vs H Q E h => ?_) (fun cdv A outer s H vs Q E hr h => ?_)
  · obtain ⟨a, ns, k, rfl, _⟩ := h
    rfl
  obtain ⟨a, ns, k, rfl, hs, hl, h0, q⟩ := h
  refine ⟨_, pss_cons (ps_if (pt_cmpR op_lt (pv 1) (pe_callB call_len_seq (by rfl) B.len PySem.boot_len (pa_cons (pv 0) pa_nil)) (nomark _)) (pss_one (ps_ret (pe_ix ix_list (pv 0) (pv 1) (fun _ _ => rfl)))) pss_nil)
    (pss_one (ps_ret pe_int)), ?_⟩
  refine ⟨.int k, rfl, .ref a, rfl, a, _, rfl, .inl hs, k, _, rfl, rfl, _, rfl, ?_⟩
  refine ite2 (fun c => ?_) (fun c => q 0)
  have c' : k < (((ns.map V.int).length : Nat) : Int) := of_decide_eq_true c
  rw [List.length_map] at c'
  obtain ⟨z, _, hz⟩ := at_ints h0 c'
  exact ⟨.ref a, rfl, .int k, rfl, a, _, k, _, rfl, rfl, hs, hz, q z⟩
/-! ### _law_things, _law_good, _law_around -/
def spThings (K : PySem.W.Frag) : Sp := fun vs H Q _ => ∃ n : Int, vs = [.int n] ∧ ∀ (r : Addr) (ys : List V) (H' : Hp), Same H H' → H' r = some (.lst ys) → DpAll K H' ys (badsD n) → Q (.ref r) H'
theorem scThings : FnScope ["_law_n", "_law_s", "_law_things_here"] ["_law_n"] (defScope sThings) := ⟨rfl, rfl, rfl, by decide +kernel, rfl, by decide +kernel, by decide +kernel⟩
theorem gl_at {K : PySem.W.Frag} {σ : L2.St} {H : Hp} {ta : TA} {ds : List PyData} (h : GvA K ta σ H ds) (hl : ds.length ≤ 1000) {Q : VK} (q : ∀ (p : Addr) (vs : List V) (H' : Hp), Same H H' → H' p = some (.lst vs) → DpAll K H' vs ds → vs.length = ds.length → Q (.ref p) H') : tLst ta σ H Q :=
  h H (Same.refl _) _ fun vs H1 e1 hvs => ⟨sl1000 (by rw [dpAll_len hvs]; omega), fun p np => q p vs _ (e1.trans (same_new np _)) upd_same (dpAll_same (same_new np _) _ _ hvs) (dpAll_len hvs)⟩
theorem gv_mod {K : PySem.W.Frag} {σ : L2.St} {H : Hp} {n : Int} (h : σ[0]? = some (some (.int n))) : GvE K (tOp (rI (fun _ j => 0 < j) fun i j => .int (i % j)) (tVar 0) (tC (.int 100))) σ H (.int (n % 100)) :=
  gv_num fun H' Q q => ⟨.int n, h, n, 100, rfl, rfl, (by show (0 : Int) < 100; decide), q⟩
theorem ok_things (D : Df K mg "_law_things" sThings ["_law_n"] f fd) (B : Blt mg) : FnOk P w K mg base CX0 1 f fd ["_law_n"] (spThings K) := by
  refine D.fn.ok scThings (fun vs H Q E h => ?_) (fun cdv A outer s H vs Q E hr h => ?_)
  · obtain ⟨n, rfl, _⟩ := h
    rfl
  obtain ⟨n, rfl, q⟩ := h
  refine ⟨_, pss_cons (ps_set (i := 1) scThings.nd rfl (.inl rfl) (pe_tup (pa_cons pe_str (pa_cons (pe_op op_mod (pv 0) pe_int) pa_nil))))
    (pss_cons (ps_set (i := 2) scThings.nd rfl (.inl rfl) (pe_lst (pa_cons (pe_tup (pa_cons pe_str (pa_cons (pe_op op_add pe_int (pe_op op_mod (pv 0) (pe_op op_pow pe_int pe_int))) pa_nil)))
      (pa_cons (pe_tup (pa_cons pe_str (pa_cons (pe_op op_sub (pe_op op_sub pe_int pe_int) (pe_op op_mod (pv 0) (pe_op op_pow pe_int pe_int))) pa_nil)))
      (pa_cons (pe_tup (pa_cons pe_str (pa_cons pe_bl pa_nil)))
      (pa_cons (pe_tup (pa_cons pe_str (pa_cons (pe_callTy call_str_int (by rfl) B.str bt_str (pa_cons (pe_op op_mod (pv 0) pe_int) pa_nil)) pa_nil))) pa_nil))))))
    (pss_cons (ps_set (i := 2) scThings.nd rfl (.inl rfl) (pe_op op_cat (pv 2) (pe_lst
      (pa_cons (pe_tup (pa_cons pe_str pa_nil))
      (pa_cons (pe_tup (pa_cons pe_str (pa_cons (pe_op op_mod (pv 0) pe_int) (pa_cons (pe_op op_mod (pv 0) pe_int) pa_nil))))
      (pa_cons (pe_lst (pa_cons pe_str (pa_cons (pe_op op_mod (pv 0) pe_int) pa_nil)))
      (pa_cons (pe_tup (pa_cons pe_str pa_nil))
      (pa_cons (pe_tup (pa_cons pe_str (pa_cons (pv 1) (pa_cons (pv 1) pa_nil))))
      (pa_cons (pe_tup (pa_cons pe_str (pa_cons (pv 1) pa_nil))) pa_nil)))))))))
    (pss_cons (ps_set (i := 2) scThings.nd rfl (.inl rfl) (pe_op op_cat (pv 2) (pe_lst
      (pa_cons (pe_tup (pa_cons pe_str (pa_cons (pv 1) (pa_cons (pv 1) (pa_cons (pv 1) pa_nil)))))
      (pa_cons (pe_tup (pa_cons pe_str (pa_cons (pv 1) pa_nil)))
      (pa_cons (pe_tup (pa_cons pe_str (pa_cons (pv 1) pa_nil)))
      (pa_cons (pe_tup (pa_cons pe_non (pa_cons (pv 1) pa_nil)))
      (pa_cons (pe_tup pa_nil)
      (pa_cons pe_non
      (pa_cons (pe_op op_mod (pv 0) pe_int)
      (pa_cons pe_str
      (pa_cons (pe_tup (pa_cons pe_str (pa_cons (pv 1) (pa_cons (pv 1) pa_nil)))) pa_nil))))))))))))
    (pss_cons (ps_set (i := 2) scThings.nd rfl (.inl rfl) (pe_op op_cat (pv 2) (pe_lst
      (pa_cons (pe_tup (pa_cons pe_str (pa_cons (pe_op op_mod (pv 0) pe_int) pa_nil)))
      (pa_cons (pe_tup (pa_cons pe_str (pa_cons (pv 1) (pa_cons (pe_tup pa_nil) pa_nil))))
      (pa_cons (pe_tup (pa_cons pe_str (pa_cons (pe_lst (pa_cons pe_str (pa_cons pe_int pa_nil))) (pa_cons (pv 1) pa_nil))))
      (pa_cons (pe_tup (pa_cons (pv 1) (pa_cons (pv 1) pa_nil)))
      (pa_cons (pe_tup (pa_cons pe_str (pa_cons (pv 1) pa_nil))) pa_nil))))))))
    (pss_one (ps_ret (pv 2))))))), ?_⟩
  have m : ∀ {x1 x2 : Option V} {H : Hp}, GvE K (tOp (rI (fun _ j => 0 < j) fun i j => .int (i % j)) (tVar 0) (tC (.int 100))) [some (.int n), x1, x2] H (.int (n % 100)) := fun {_ _ _} => gv_mod rfl
  dsimp only [tNext, tSeq, tAsg, tRet]
  refine GvE.at (K := K) (d := badS n) (gv_tup (gv_cons (gv_str _) (gv_cons m gv_nil)) (by show 2 ≤ 1000; decide)) fun vS H1 e1 hS => ?_
  dsimp only [tNext, tSeq, tAsg, tRet, gName]
  refine gl_at (K := K) (ds := bads1 n) (gv_cons (gv_tup (gv_cons (gv_str _) (gv_cons (gv_num fun H' Q q => ⟨.int n, rfl, 10, 20, rfl, rfl, ⟨by decide, by decide, by decide⟩, n, _, rfl, rfl, pow20, 100, _, rfl, rfl, q⟩) gv_nil)) (by show 2 ≤ 1000; decide))
    (gv_cons (gv_tup (gv_cons (gv_str _) (gv_cons (gv_num fun H' Q q => ⟨0, 1, rfl, rfl, .int n, rfl, 10, 20, rfl, rfl, ⟨by decide, by decide, by decide⟩, n, _, rfl, rfl, pow20, _, _, rfl, rfl, q⟩) gv_nil)) (by show 2 ≤ 1000; decide))
    (gv_cons (gv_tup (gv_cons (gv_str _) (gv_cons (gv_bl _) gv_nil)) (by show 2 ≤ 1000; decide))
    (gv_cons (gv_tup (gv_cons (gv_str _) (gv_cons (gv_txt fun H' Q q => ⟨.int n, rfl, n, 100, rfl, rfl, (by show (0 : Int) < 100; decide), n % 100, rfl, log_small ⟨mod_lo n (by decide), by have := mod_hi n (by decide : (0 : Int) < 100); omega⟩, q⟩) gv_nil)) (by show 2 ≤ 1000; decide)) gv_nil)))) (by show 4 ≤ 1000; decide) fun p1 vs1 H2 e2 h2 k2 l2 => ?_
  have hS2 := dp_same e2 _ _ hS
  have s3 : ∀ {x2 : Option V}, GvE K (tVar 1) [some (.int n), some vS, x2] H2 (badS n) := fun {_} => gv_var rfl hS2
  refine ⟨.ref p1, rfl, ?_⟩
  dsimp only [tNext, tSeq, tAsg, tRet, gName]
  refine gl_at (K := K) (ds := bads2 n) (gv_cons (gv_tup (gv_cons (gv_str _) gv_nil) (by show 1 ≤ 1000; decide))
    (gv_cons (gv_tup (gv_cons (gv_str _) (gv_cons m (gv_cons m gv_nil))) (by show 3 ≤ 1000; decide))
    (gv_cons (gv_lst (gv_cons (gv_str _) (gv_cons m gv_nil)) (by show 2 ≤ 1000; decide))
    (gv_cons (gv_tup (gv_cons (gv_str _) gv_nil) (by show 1 ≤ 1000; decide))
    (gv_cons (gv_tup (gv_cons (gv_str _) (gv_cons s3 (gv_cons s3 gv_nil))) (by show 3 ≤ 1000; decide))
    (gv_cons (gv_tup (gv_cons (gv_str _) (gv_cons s3 gv_nil)) (by show 2 ≤ 1000; decide)) gv_nil)))))) (by show 6 ≤ 1000; decide) fun p2 vs2 H3 e3 h3 k3 l3 => ?_
  refine ⟨p1, p2, vs1, vs2, rfl, rfl, e3 _ _ h2, h3, sl1000 (by rw [l2, l3]; show 4 + 6 ≤ 100000; decide), fun p3 np3 => ?_⟩
  have e4 := same_new np3 (HO.lst (vs1 ++ vs2))
  have k4 := dpAll_app (dpAll_same (e3.trans e4) _ _ k2) (dpAll_same e4 _ _ k3)
  have s5 : ∀ {x2 : Option V}, GvE K (tVar 1) [some (.int n), some vS, x2] (upd H3 p3 (.lst (vs1 ++ vs2))) (badS n) := fun {_} => gv_var rfl (dp_same (e3.trans e4) _ _ hS2)
  refine ⟨.ref p3, rfl, ?_⟩
  dsimp only [tNext, tSeq, tAsg, tRet, gName]
  refine gl_at (K := K) (ds := bads3 n) (gv_cons (gv_tup (gv_cons (gv_str _) (gv_cons s5 (gv_cons s5 (gv_cons s5 gv_nil)))) (by show 4 ≤ 1000; decide))
    (gv_cons (gv_tup (gv_cons (gv_str _) (gv_cons s5 gv_nil)) (by show 2 ≤ 1000; decide))
    (gv_cons (gv_tup (gv_cons (gv_str _) (gv_cons s5 gv_nil)) (by show 2 ≤ 1000; decide))
    (gv_cons (gv_tup (gv_cons gv_non (gv_cons s5 gv_nil)) (by show 2 ≤ 1000; decide))
    (gv_cons (gv_tup gv_nil (by show 0 ≤ 1000; decide))
    (gv_cons gv_non
    (gv_cons m
    (gv_cons (gv_str _)
    (gv_cons (gv_tup (gv_cons (gv_str _) (gv_cons s5 (gv_cons s5 gv_nil))) (by show 3 ≤ 1000; decide)) gv_nil))))))))) (by show 9 ≤ 1000; decide) fun p4 vs3 H5 e5 h5 k5 l5 => ?_
  refine ⟨p3, p4, vs1 ++ vs2, vs3, rfl, rfl, e5 _ _ upd_same, h5, sl1000 (by rw [List.length_append, l2, l3, l5]; show 4 + 6 + 9 ≤ 100000; decide), fun p5 np5 => ?_⟩
  have e6 := same_new np5 (HO.lst ((vs1 ++ vs2) ++ vs3))
  have k6 := dpAll_app (dpAll_same (e5.trans e6) _ _ k4) (dpAll_same e6 _ _ k5)
  have s7 : ∀ {x2 : Option V}, GvE K (tVar 1) [some (.int n), some vS, x2] (upd H5 p5 (.lst ((vs1 ++ vs2) ++ vs3))) (badS n) := fun {_} => gv_var rfl (dp_same (e3.trans (e4.trans (e5.trans e6))) _ _ hS2)
  refine ⟨.ref p5, rfl, ?_⟩
  dsimp only [tNext, tSeq, tAsg, tRet, gName]
  refine gl_at (K := K) (ds := bads4 n) (gv_cons (gv_tup (gv_cons (gv_str _) (gv_cons m gv_nil)) (by show 2 ≤ 1000; decide))
    (gv_cons (gv_tup (gv_cons (gv_str _) (gv_cons s7 (gv_cons (gv_tup gv_nil (by show 0 ≤ 1000; decide)) gv_nil))) (by show 3 ≤ 1000; decide))
    (gv_cons (gv_tup (gv_cons (gv_str _) (gv_cons (gv_lst (gv_cons (gv_str _) (gv_cons (gv_int _) gv_nil)) (by show 2 ≤ 1000; decide)) (gv_cons s7 gv_nil))) (by show 3 ≤ 1000; decide))
    (gv_cons (gv_tup (gv_cons s7 (gv_cons s7 gv_nil)) (by show 2 ≤ 1000; decide))
    (gv_cons (gv_tup (gv_cons (gv_str _) (gv_cons s7 gv_nil)) (by show 2 ≤ 1000; decide)) gv_nil))))) (by show 5 ≤ 1000; decide) fun p6 vs4 H7 e7 h7 k7 l7 => ?_
  refine ⟨p5, p6, (vs1 ++ vs2) ++ vs3, vs4, rfl, rfl, e7 _ _ upd_same, h7, sl1000 (by rw [List.length_append, List.length_append, l2, l3, l5, l7]; show 4 + 6 + 9 + 5 ≤ 100000; decide), fun p7 np7 => ?_⟩
  have e8 := same_new np7 (HO.lst (((vs1 ++ vs2) ++ vs3) ++ vs4))
  have k8 := dpAll_app (dpAll_same (e7.trans e8) _ _ k6) (dpAll_same e8 _ _ k7)
  refine ⟨.ref p7, rfl, q p7 _ _ (e1.trans (e2.trans (e3.trans (e4.trans (e5.trans (e6.trans (e7.trans e8))))))) upd_same ?_⟩
  have eq : badsD n = ((bads1 n ++ bads2 n) ++ bads3 n) ++ bads4 n := by
    unfold badsD
    rw [List.append_assoc, List.append_assoc]
  rw [eq]
  exact k8
def goodsD (n : Int) : List PyData := [badS n, .tuple [.str ("not" : Str), badS n], .tuple [.str ("then" : Str), badS n, .tuple [.str ("sign" : Str), .int 99]], .tuple [.str ("or" : Str), .tuple [.str ("sign" : Str), .int 0], .tuple [.str ("and" : Str), badS n, badS n]]]
theorem good_sign (n : Int) : 0 ≤ n % 100 ∧ n % 100 ≤ 99 := ⟨mod_lo n (by decide), by have := mod_hi n (by decide : (0 : Int) < 100); omega⟩
theorem goods_fm (n : Int) (j : Nat) (d : PyData) (h : (goodsD n)[j]? = some d) : ∃ g : Fm, d = g.toD ∧ g.good ∧ [V.int 1, V.int 2, V.int 2, V.int 3][j]? = some (.int (g.dep : Int)) := by
  have gs := good_sign n
  match j, h with
  | 0, h => exact ⟨.sg (n % 100), (Option.some.inj h).symm, gs, rfl⟩
  | 1, h => exact ⟨.no (.sg (n % 100)), (Option.some.inj h).symm, gs, rfl⟩
  | 2, h => exact ⟨.bi .th (.sg (n % 100)) (.sg 99), (Option.some.inj h).symm, ⟨gs, by decide, by decide⟩, rfl⟩
  | 3, h => exact ⟨.bi .o (.sg 0) (.bi .an (.sg (n % 100)) (.sg (n % 100))), (Option.some.inj h).symm, ⟨⟨by decide, by decide⟩, gs, gs⟩, rfl⟩
  | j + 4, h => cases h
theorem goods_at {K : PySem.W.Frag} {H : Hp} {n : Int} {vs : List V} (k : DpAll K H vs (goodsD n)) : ∃ (v : V) (g : Fm), atI vs (n / 100 % 4) = some v ∧ Dp K H v g.toD ∧ g.good ∧ atI [V.int 1, V.int 2, V.int 2, V.int 3] (n / 100 % 4) = some (.int (g.dep : Int)) := by
  have lo := mod_lo (n / 100) (by decide : (0 : Int) < 4)
  have hi := mod_hi (n / 100) (by decide : (0 : Int) < 4)
  obtain ⟨j, hj⟩ := Int.eq_ofNat_of_zero_le lo
  have l : vs.length = 4 := dpAll_len k
  have hj4 : j < vs.length := by omega
  have hv : vs[j]? = some vs[j] := List.getElem?_eq_getElem hj4
  obtain ⟨d, hd, hdp⟩ := dpAll_get k hv
  obtain ⟨g, rfl, gg, gd⟩ := goods_fm n j d hd
  rw [hj]
  exact ⟨vs[j], g, atI_nat hv, hdp, gg, atI_nat gd⟩
def spGood (K : PySem.W.Frag) : Sp := fun vs H Q _ => ∃ n : Int, vs = [.int n] ∧ ∀ (v : V) (g : Fm) (H' : Hp), Same H H' → Dp K H' v g.toD → g.good → atI [V.int 1, V.int 2, V.int 2, V.int 3] (n / 100 % 4) = some (.int (g.dep : Int)) → Q v H'
theorem scGood : FnScope ["_law_n", "_law_s"] ["_law_n"] (defScope sGood) := ⟨rfl, rfl, rfl, by decide +kernel, rfl, by decide +kernel, by decide +kernel⟩
theorem ok_good (D : Df K mg "_law_good" sGood ["_law_n"] f fd) : FnOk P w K mg base CX0 1 f fd ["_law_n"] (spGood K) := by
  refine D.fn.ok scGood (fun vs H Q E h => ?_) (fun cdv A outer s H vs Q E hr h => ?_)
  · obtain ⟨n, rfl, _⟩ := h
    rfl
  obtain ⟨n, rfl, q⟩ := h
  refine ⟨_, pss_cons (ps_set (i := 1) scGood.nd rfl (.inl rfl) (pe_tup (pa_cons pe_str (pa_cons (pe_op op_mod (pv 0) pe_int) pa_nil))))
    (pss_one (ps_ret (pe_ix ix_list (pe_lst (pa_cons (pv 1) (pa_cons (pe_tup (pa_cons pe_str (pa_cons (pv 1) pa_nil))) (pa_cons (pe_tup (pa_cons pe_str (pa_cons (pv 1) (pa_cons (pe_tup (pa_cons pe_str (pa_cons pe_int pa_nil))) pa_nil))))
      (pa_cons (pe_tup (pa_cons pe_str (pa_cons (pe_tup (pa_cons pe_str (pa_cons pe_int pa_nil))) (pa_cons (pe_tup (pa_cons pe_str (pa_cons (pv 1) (pa_cons (pv 1) pa_nil)))) pa_nil)))) pa_nil))))) (pe_op op_mod (pe_op op_fdiv (pv 0) pe_int) pe_int) (fun _ _ => rfl)))), ?_⟩
  dsimp only [tNext, tSeq, tAsg, tRet]
  refine GvE.at (K := K) (d := badS n) (gv_tup (gv_cons (gv_str _) (gv_cons (gv_mod rfl) gv_nil)) (by show 2 ≤ 1000; decide)) fun vS H1 e1 hS => ?_
  have sv : GvE K (tVar 1) [some (.int n), some vS] H1 (badS n) := gv_var rfl hS
  dsimp only [gName, tRet, tOp]
  refine gl_at (K := K) (ds := goodsD n) (gv_cons sv (gv_cons (gv_tup (gv_cons (gv_str _) (gv_cons sv gv_nil)) (by show 2 ≤ 1000; decide))
    (gv_cons (gv_tup (gv_cons (gv_str _) (gv_cons sv (gv_cons (gv_tup (gv_cons (gv_str _) (gv_cons (gv_int _) gv_nil)) (by show 2 ≤ 1000; decide)) gv_nil))) (by show 3 ≤ 1000; decide))
    (gv_cons (gv_tup (gv_cons (gv_str _) (gv_cons (gv_tup (gv_cons (gv_str _) (gv_cons (gv_int _) gv_nil)) (by show 2 ≤ 1000; decide)) (gv_cons (gv_tup (gv_cons (gv_str _) (gv_cons sv (gv_cons sv gv_nil))) (by show 3 ≤ 1000; decide)) gv_nil))) (by show 3 ≤ 1000; decide)) gv_nil)))) (by show 4 ≤ 1000; decide) fun p vs H2 e2 h2 k2 l2 => ?_
  refine ⟨.int n, rfl, n, 100, rfl, rfl, ⟨by decide, by decide⟩, n / 100, 4, rfl, rfl, (by show (0 : Int) < 4; decide), ?_⟩
  obtain ⟨v, g, hv, e, gg, ge⟩ := goods_at k2
  exact ⟨p, vs, _, v, rfl, rfl, SqL.of h2, hv, q v g H2 (e1.trans e2) e gg ge⟩
end
end Lm
set_option Elab.async false
set_option linter.all false
set_option maxRecDepth 100000
set_option maxHeartbeats 400000
namespace Lm
open PySem PySem.Spec PyProof.Rows L2
section
variable {P : Program} {w : World} {K : PySem.W.Frag} {mg : Str → Option Value} {base : Heap} {f : Addr} {fd : FuncData}
/-- d wrapped so many times -/
def Wrap (m : Nat) (d d' : PyData) : Prop := (Nev d → Nev d') ∧ ∀ g : Fm, d = g.toD → g.good → ∃ g' : Fm, d' = g'.toD ∧ g'.good ∧ g'.dep = g.dep + m
theorem wrap0 (d : PyData) : Wrap 0 d d := ⟨fun h => h, fun g e h => ⟨g, e, h, rfl⟩⟩
theorem wrapN {m : Nat} {d x : PyData} (h : Wrap m d x) : Wrap (m + 1) d (.tuple [.str ("not" : Str), x]) := by
  refine ⟨fun n => nev_in ne_not (h.1 n) List.mem_cons_self, fun g e gg => ?_⟩
  obtain ⟨g', rfl, h1, h2⟩ := h.2 g e gg
  exact ⟨.no g', rfl, h1, by show g'.dep + 1 = g.dep + (m + 1); omega⟩
theorem wrapL {m : Nat} {d x : PyData} {b : Bw} {i : Int} (hi : 0 ≤ i ∧ i ≤ 99) (h : Wrap m d x) : Wrap (m + 1) d (.tuple [.str b.txt, x, .tuple [.str ("sign" : Str), .int i]]) := by
  refine ⟨fun n => nev_in (txt_sign b) (h.1 n) List.mem_cons_self, fun g e gg => ?_⟩
  obtain ⟨g', rfl, h1, h2⟩ := h.2 g e gg
  have := Fm.dep_pos g'
  exact ⟨.bi b g' (.sg i), rfl, ⟨h1, hi⟩, by show max g'.dep 1 + 1 = g.dep + (m + 1); omega⟩
theorem wrapR {m : Nat} {d x : PyData} {b : Bw} {i : Int} (hi : 0 ≤ i ∧ i ≤ 99) (h : Wrap m d x) : Wrap (m + 1) d (.tuple [.str b.txt, .tuple [.str ("sign" : Str), .int i], x]) := by
  refine ⟨fun n => nev_in (txt_sign b) (h.1 n) (List.mem_cons_of_mem _ List.mem_cons_self), fun g e gg => ?_⟩
  obtain ⟨g', rfl, h1, h2⟩ := h.2 g e gg
  have := Fm.dep_pos g'
  exact ⟨.bi b (.sg i) g', rfl, ⟨hi, h1⟩, by show max 1 g'.dep + 1 = g.dep + (m + 1); omega⟩
def spAround (K : PySem.W.Frag) : Sp := fun vs H Q _ => ∃ (a : Addr) (ns : List Int) (v : V) (d : PyData) (m : Nat) (n : Int), vs = [.ref a, v, .int (m : Int), .int n] ∧ SqL K H a (ns.map V.int) ∧ ns.length ≤ 63 ∧ Dp K H v d ∧ m ≤ 12 ∧
  ∀ (v' : V) (d' : PyData) (H' : Hp), Same H H' → Dp K H' v' d' → Wrap m d d' → Q v' H'
theorem scAround : FnScope ["_law_script", "_law_thing", "_law_many", "_law_n", "_law_s", "_law_k", "_law_cell", "_law_word"] ["_law_script", "_law_thing", "_law_many", "_law_n"] (defScope sAround) := ⟨rfl, rfl, rfl, by decide +kernel, rfl, by decide +kernel, by decide +kernel⟩
theorem ok_around (D : Df K mg "_law_around" sAround ["_law_script", "_law_thing", "_law_many", "_law_n"] f fd) (mr : mg "range" = none) (C : Has P w K mg base 1 "_law_cell_at" ["_law_script", "_law_k"] (spCellA K)) :
    FnOk P w K mg base CX0 2 f fd ["_law_script", "_law_thing", "_law_many", "_law_n"] (spAround K) := by
  refine D.fn.ok scAround (fun vs H Q E h => ?_) (fun cdv A outer s H vs Q E hr h => ?_)
  · obtain ⟨a, ns, v, d, m, n, rfl, _⟩ := h
    rfl
  obtain ⟨a, ns, v, d, m, n, rfl, hs, hl, hd, m2, q⟩ := h
  refine ⟨_, pss_cons (ps_set (i := 4) scAround.nd rfl (.inl rfl) (pe_tup (pa_cons pe_str (pa_cons (pe_op op_mod (pe_op op_add (pv 3) pe_int) pe_int) pa_nil))))
    (pss_cons (ps_for PassesOwn.never rfl (pi_range1 rfl mr (pa_cons (pv 2) pa_nil)) (pg_name (i := 5) scAround.nd rfl (.inl rfl))
      (pss_cons (ps_set (i := 6) scAround.nd rfl (.inl rfl) (pe_callH C hr (by rfl) (pa_cons (pv 0) (pa_cons (pe_op op_add pe_int (pv 5)) pa_nil))))
      (pss_cons (ps_set (i := 7) scAround.nd rfl (.inl rfl) (pe_ix ix_list (pe_lst (pa_cons pe_str (pa_cons pe_str (pa_cons pe_str pa_nil)))) (pe_op op_mod (pe_op op_fdiv (pv 6) pe_int) pe_int) (fun _ _ => rfl)))
      (pss_one (ps_set (i := 1) scAround.nd rfl (.inl rfl) (pe_ix ix_list (pe_lst (pa_cons (pe_tup (pa_cons pe_str (pa_cons (pv 1) pa_nil))) (pa_cons (pe_tup (pa_cons (pv 7) (pa_cons (pv 1) (pa_cons (pv 4) pa_nil)))) (pa_cons (pe_tup (pa_cons (pv 7) (pa_cons (pv 4) (pa_cons (pv 1) pa_nil)))) pa_nil)))) (pe_op op_mod (pv 6) pe_int) (fun _ _ => rfl)))))))
    (pss_one (ps_ret (pv 1)))), ?_⟩
  dsimp only [tNext, tSeq, tAsg]
  have hi : 0 ≤ (n + 31) % 100 ∧ (n + 31) % 100 ≤ 99 := good_sign (n + 31)
  refine GvE.at (K := K) (d := .tuple [.str ("sign" : Str), .int ((n + 31) % 100)]) (gv_tup (gv_cons (gv_str _) (gv_cons (gv_num fun H' Q q => ⟨.int n, rfl, n, 31, rfl, rfl, n + 31, 100, rfl, rfl, (by show (0 : Int) < 100; decide), q⟩) gv_nil)) (by show 2 ≤ 1000; decide)) fun vS H1 e1 hS => ?_
  refine ⟨.int (m : Int), rfl, m, rfl, by omega, by omega, ?_⟩
  refine for_range (lo := 0) (n := (m : Int).toNat) (fun i σ H' => ∃ (v' : V) (d' : PyData) (x5 x6 x7 : Option V), σ = [some (.ref a), some v', some (.int (m : Int)), some (.int n), some vS, x5, x6, x7] ∧ Same H1 H' ∧ Dp K H' v' d' ∧ Wrap i d d')
    ⟨v, d, none, none, none, rfl, Same.refl _, dp_same e1 _ _ hd, wrap0 d⟩ ?_ ?_
  · rintro i σ H' hi' ⟨v', d', x5, x6, x7, rfl, e2, hv, wr⟩
    refine ⟨.ref a, rfl, .int (0 + i), rfl, 4, (0 + (i : Int)), rfl, rfl, a, ns, 4 + (0 + (i : Int)), rfl, (e1.trans e2).seq hs, hl, by omega, fun c => ?_⟩
    refine ⟨(by show 3 ≤ sizeLine; exact sl1000 (by decide)), fun l nl => ?_⟩
    obtain ⟨bw, hb⟩ := lit3 (c / 3)
    refine ⟨.int c, rfl, c, 3, rfl, rfl, ⟨by decide, by decide⟩, _, 3, rfl, rfl, (by show (0 : Int) < 3; decide), l, _, _, _, rfl, rfl, SqL.of upd_same, hb, ?_⟩
    dsimp only [tAsg, gName, tOp]
    have s1 := same_new nl (HO.lst [V.str ("and" : Str), V.str ("or" : Str), V.str ("then" : Str)])
    have g1 : GvE K (tVar 1) [some (.ref a), some v', some (.int (m : Int)), some (.int n), some vS, some (.int (0 + (i : Int))), some (.int c), some (.str bw.txt)] (upd H' l (.lst [V.str ("and" : Str), V.str ("or" : Str), V.str ("then" : Str)])) d' := gv_var rfl (dp_same s1 _ _ hv)
    have g4 : GvE K (tVar 4) [some (.ref a), some v', some (.int (m : Int)), some (.int n), some vS, some (.int (0 + (i : Int))), some (.int c), some (.str bw.txt)] (upd H' l (.lst [V.str ("and" : Str), V.str ("or" : Str), V.str ("then" : Str)])) (.tuple [.str ("sign" : Str), .int ((n + 31) % 100)]) := gv_var rfl (dp_same (e2.trans s1) _ _ hS)
    have g7 : GvE K (tVar 7) [some (.ref a), some v', some (.int (m : Int)), some (.int n), some vS, some (.int (0 + (i : Int))), some (.int c), some (.str bw.txt)] (upd H' l (.lst [V.str ("and" : Str), V.str ("or" : Str), V.str ("then" : Str)])) (.str bw.txt) := gv_var rfl (.str _)
    refine gl_at (K := K) (ds := [.tuple [.str ("not" : Str), d'], .tuple [.str bw.txt, d', .tuple [.str ("sign" : Str), .int ((n + 31) % 100)]], .tuple [.str bw.txt, .tuple [.str ("sign" : Str), .int ((n + 31) % 100)], d']])
      (gv_cons (gv_tup (gv_cons (gv_str _) (gv_cons g1 gv_nil)) (by show 2 ≤ 1000; decide)) (gv_cons (gv_tup (gv_cons g7 (gv_cons g1 (gv_cons g4 gv_nil))) (by show 3 ≤ 1000; decide)) (gv_cons (gv_tup (gv_cons g7 (gv_cons g4 (gv_cons g1 gv_nil))) (by show 3 ≤ 1000; decide)) gv_nil))) (by show 3 ≤ 1000; decide) fun p vs H2 e3 h3 k3 l3 => ?_
    have lo := mod_lo c (by decide : (0 : Int) < 3)
    have hh := mod_hi c (by decide : (0 : Int) < 3)
    have l3' : vs.length = 3 := l3
    obtain ⟨u, hu, eu⟩ := at_any (zs := vs) lo (by omega)
    obtain ⟨j, hj⟩ := List.getElem?_of_mem hu
    obtain ⟨y, hy, hd'⟩ := dpAll_get k3 hj
    refine ⟨.int c, rfl, c, 3, rfl, rfl, (by show (0 : Int) < 3; decide), p, vs, _, u, rfl, rfl, SqL.of h3, eu, ?_⟩
    refine ⟨u, y, _, _, _, rfl, e2.trans (s1.trans e3), hd', ?_⟩
    have my := List.mem_of_getElem? hy
    simp only [List.mem_cons, List.not_mem_nil, or_false] at my
    rcases my with rfl | rfl | rfl
    · exact wrapN wr
    · exact wrapL hi wr
    · exact wrapR hi wr
  · rintro σ H' ⟨v', d', x5, x6, x7, rfl, e2, hv, wr⟩
    exact ⟨v', rfl, q v' d' H' (e1.trans e2) hv (by rw [Int.toNat_natCast] at wr; exact wr)⟩
end
end Lm
set_option Elab.async false
set_option linter.all false
set_option maxRecDepth 100000
set_option maxHeartbeats 400000
namespace Lm
open PySem PySem.Spec PyProof.Rows L2
/-! ### data, but for the tables -/
theorem sqT_tab {K : PySem.W.Frag} {H H' : Hp} {a : Addr} {xs : List V} (e : LamX.ExtN H H') (h : SqT K H a xs) : SqT K H' a xs := by
  rcases h with (h | ⟨o, h⟩) | h
  · exact .inl (.inl (e _ _ h fun _ z => nomatch z))
  · exact .inl (.inr ⟨o, e _ _ h fun _ z => nomatch z⟩)
  · exact .inr h
theorem sqL_tab {K : PySem.W.Frag} {H H' : Hp} {a : Addr} {xs : List V} (e : LamX.ExtN H H') (h : SqL K H a xs) : SqL K H' a xs := by
  rcases h with (h | ⟨o, h⟩) | h
  · exact .inl (.inl (e _ _ h fun _ z => nomatch z))
  · exact .inl (.inr ⟨o, e _ _ h fun _ z => nomatch z⟩)
  · exact .inr h
mutual
theorem dp_tab {K : PySem.W.Frag} {H H' : Hp} (e : LamX.ExtN H H') : ∀ (d : PyData) (v : V), Dp K H v d → Dp K H' v d
  | .none, _, h => by cases h; exact .non
  | .bool b, _, h => by cases h; exact .bl b
  | .int i, _, h => by cases h; exact .int i
  | .str x, _, h => by cases h; exact .str x
  | .list ds, _, h => by
    cases h with
    | lst hs ha => exact .lst (sqL_tab e hs) (dpAll_tab e ds _ ha)
  | .tuple ds, _, h => by
    cases h with
    | tup hs ha => exact .tup (sqT_tab e hs) (dpAll_tab e ds _ ha)
  | .dict _, _, h => by cases h
theorem dpAll_tab {K : PySem.W.Frag} {H H' : Hp} (e : LamX.ExtN H H') : ∀ (ds : List PyData) (vs : List V), DpAll K H vs ds → DpAll K H' vs ds
  | [], _, h => by cases h; exact .nil
  | d :: ds, _, h => by
    cases h with
    | cons h1 h2 => exact .cons (dp_tab e d _ h1) (dpAll_tab e ds _ h2)
end
/-! ### the law -/
abbrev LQ : Str := Str.ofString "law" ++ Str.ofString ".<locals>."
def spLaw (K : PySem.W.Frag) (P0 : Addr) : Sp := fun vs H Q _ => ∃ (a : Addr) (ns : List Int), vs = [.ref a] ∧ SqL K H a (ns.map V.int) ∧ ns.length ≤ 63 ∧ H P0 = some (.tbl #[]) ∧ ∀ H', Q (.bl true) H'
theorem scLaw : FnScope ["_law_script", "_law_n", "_law_many", "_law_pick", "_law_due", "_law_found", "_law_thing"] ["_law_script"] (defScope sLaw) := ⟨rfl, rfl, rfl, by decide +kernel, rfl, by decide +kernel, by decide +kernel⟩
section
variable {P : Program} {w : World} {K : PySem.W.Frag} {mg : Str → Option Value} {base : Heap} {f : Addr}
theorem ok_law {cc P0 C0 CL C1 C2 C3 g : Addr} {gd : FuncData} {oc kV doc pm ct : Value} {od an : Option Addr} {osl : Array (Option Value)} {t1 t2 : Tok} (lk : K.lookup f = some ⟨oc, od, .func (PySem.W.fnOf "law" "law" (defArgs sLaw) (defBody sLaw) (defScope sLaw) .none kV doc pm an (.ref cc) ct), osl⟩) (hcd : PySem.W.codeIn K (.ref cc) "law" = true)
    (TB : LamX.TabB base mg cc P0) (B : Blt mg) (ms : mg "MOST_SIGN" = some (.int 99 t1)) (md : mg "MOST_DEEP" = some (.int 12 t2)) (DR : Df K mg "_law_refused" sRefused ["_law_deed"] g gd) (RK : RefdK K mg CL C0 C1 C2 C3)
    (C : Has P w K mg base 1 "_law_cell_at" ["_law_script", "_law_k"] (spCellA K)) (TH : Has P w K mg base 1 "_law_things" ["_law_n"] (spThings K)) (GO : Has P w K mg base 1 "_law_good" ["_law_n"] (spGood K)) (AR : Has P w K mg base 2 "_law_around" ["_law_script", "_law_thing", "_law_many", "_law_n"] (spAround K))
    (IF : Has P w K mg base 16 "is_formula" ["thing"] (spIsFormula K)) (TR : HasN P w K mg base 18 "truth" ["f", "world"] (spTruthN K C0)) (PA : HasN P w K mg base 28 "parts" ["f"] (spPartsN K C0)) :
    FnOk P w K mg base CX0 31 f (PySem.W.fnOf "law" "law" (defArgs sLaw) (defBody sLaw) (defScope sLaw) .none kV doc pm an (.ref cc) ct) ["_law_script"] (spLaw K P0) := by
  refine fn_of lk hcd scLaw (fun vs H Q E h => ?_) (fun A outer s H vs Q E hr h => ?_)
  · obtain ⟨a, ns, rfl, _⟩ := h
    rfl
  obtain ⟨a, ns, rfl, hS, h63, hP0, q⟩ := h
  have r16 : Room 16 (A.deeper (envOfC "law" (defScope sLaw) s.heap.objs.size f (.ref cc))) := hr.mono (by decide)
  have r2 : Room 2 (A.deeper (envOfC "law" (defScope sLaw) s.heap.objs.size f (.ref cc))) := hr.mono (by decide)
  have r1 : Room 1 (A.deeper (envOfC "law" (defScope sLaw) s.heap.objs.size f (.ref cc))) := hr.mono (by decide)
  have r20 : Room 20 (A.deeper (envOfC "law" (defScope sLaw) s.heap.objs.size f (.ref cc))) := hr.mono (by decide)
  -- the last question
  obtain ⟨tl, hL, qL⟩ : ∃ t, PSs (cxOf CX0 P w K mg base ["_law_script", "_law_n", "_law_many", "_law_pick", "_law_due", "_law_found", "_law_thing"] "law" (defScope sLaw) f (.ref cc) A outer s H E).nox ((defBody sLaw).drop 9) t ∧ ∀ (v : V) (d : PyData) (due : Bool) (z1 z2 z3 z5 : Option V) (H1 : Hp), LamX.Tabs [(P0, LQ ++ "<lambda>")] H1 → Dp K H1 v d → isF 12 d = due →
      t { nx := fun _ H' => Q .non H', rt := Q } [some (.ref a), z1, z2, z3, some (.bl due), z5, some v] H1 := by
    refine ⟨_, pss_one (ps_ret (pe_cmpR op_ne (pe_refused (X := (cxOf CX0 P w K mg base ["_law_script", "_law_n", "_law_many", "_law_pick", "_law_due", "_law_found", "_law_thing"] "law" (defScope sLaw) f (.ref cc) A outer s H E).nox) (g := g) DR RK (by rfl) (ql := LQ) rfl TB rfl hr (LamX.lamS_by (sc := defScope sLaw) (by decide +kernel)) rfl (fun _ _ _ _ _ => rfl) (fun A' outer' s' H' E' f' co' r' => pe_callN (E := E') PA nCx_takes (fun _ _ _ _ h => h) r' (by rfl) (pa_cons (pv 6) pa_nil))) (pv 4) (nomark _))), fun v d due z1 z2 z3 z5 H1 hT hd hdue => ?_⟩
    refine ⟨hT, fun H2 eN T2 => ?_⟩
    have hd2 := dp_tab eN _ _ hd
    refine ⟨v, rfl, v, d, rfl, hd2, fun g1 eg gg gd r H3 ys e3 k3 d3 => ?_, fun c H3 e3 => ⟨rfl, rfl, fun H4 e4 => ?_⟩⟩
    · have : due = true := by rw [← hdue, eg]; exact isF_toD g1 12 gg gd
      subst this
      exact ⟨.bl true, rfl, rfl, q H3⟩
    · have : due = false := by rw [← hdue]; exact c
      subst this
      exact ⟨.bl false, rfl, rfl, q H4⟩
  -- behind the drawing
  obtain ⟨tt, hT, qT⟩ : ∃ t, PSs (cxOf CX0 P w K mg base ["_law_script", "_law_n", "_law_many", "_law_pick", "_law_due", "_law_found", "_law_thing"] "law" (defScope sLaw) f (.ref cc) A outer s H E).nox ((defBody sLaw).drop 5) t ∧ ∀ (v : V) (d : PyData) (due : Bool) (m : Nat) (n : Int) (z3 : Option V) (H1 : Hp), Same H H1 → Dp K H1 v d → m ≤ 12 → (∀ d', Wrap m d d' → isF 12 d' = due) →
      t { nx := fun _ H' => Q .non H', rt := Q } [some (.ref a), some (.int n), some (.int (m : Int)), z3, some (.bl due), none, some v] H1 := by
    refine ⟨_, pss_cons (ps_set (i := 6) scLaw.nd rfl (.inr rfl) (pe_callH AR r2 (by rfl) (pa_cons (pv 0) (pa_cons (pv 6) (pa_cons (pv 2) (pa_cons (pv 1) pa_nil))))))
      (pss_cons (ps_set (i := 5) scLaw.nd rfl (.inl rfl) (pe_callH IF r16 (by rfl) (pa_cons (pv 6) pa_nil)))
      (pss_cons (ps_if (PW.pt (pw_or (pt_cmpR op_ne (pe_glob (v := .int 99) (by rfl) ms ⟨_, rfl⟩) pe_int (nomark _)) (pw_or (pt_cmpR op_ne (pe_glob (v := .int 12) (by rfl) md ⟨_, rfl⟩) pe_int (nomark _)) (pw_or (pt_not (pt_val (pe_callB call_isi (by rfl) B.isinstance bt_isinstance (pa_cons (pv 5) (pa_cons (pe_bltn (v := .ty "bool") (by rfl) B.bool bt_bool rfl) pa_nil))))) (pw_or1 (pt_cmpR op_ne (pv 5) (pv 4) (nomark _))))))) (pss_one (ps_ret pe_bl)) pss_nil)
      (pss_cons (ps_if (pt_cmpR op_eq (pe_refused (X := (cxOf CX0 P w K mg base ["_law_script", "_law_n", "_law_many", "_law_pick", "_law_due", "_law_found", "_law_thing"] "law" (defScope sLaw) f (.ref cc) A outer s H E).nox) (g := g) DR RK (by rfl) (ql := LQ) rfl TB rfl (hr.mono (by decide)) (LamX.lamS_by (sc := defScope sLaw) (by decide +kernel)) rfl (fun _ _ _ _ _ => rfl) (fun A' outer' s' H' E' f' co' (r' : Room 18 _) => pe_callN (E := E') TR nCx_takes (fun _ _ _ _ h => h) r' (by rfl) (pa_cons (pv 6) (pa_cons (pe_lst (pa_cons pe_int pa_nil)) pa_nil)))) (pv 4) (nomark _)) (pss_one (ps_ret pe_bl)) pss_nil)
      hL))), fun v d due m n z3 H1 e1 hd hm hw => ?_⟩
    refine ⟨.ref a, rfl, v, rfl, .int (m : Int), rfl, .int n, rfl, a, ns, v, d, m, n, rfl, e1.seq hS, h63, hd, hm, fun v2 d2 H2 e2 hd2 wr => ?_⟩
    have hdue := hw d2 wr
    refine ⟨v2, rfl, v2, d2, rfl, hd2, fun H3 e3 => ?_⟩
    rw [hdue]
    have hd3 := dp_same e3 _ _ hd2
    refine ⟨rfl, _, rfl, ?_⟩
    refine iteNS rfl ?_
    refine ⟨rfl, _, rfl, ?_⟩
    refine iteNS rfl ?_
    refine ⟨_, rfl, _, .ty "bool", _, _, _, rfl, .ty "bool", .base (.bl _), kit_ty (show kitB "bool" "bool" = some true from by decide +kernel), true, rfl, ?_⟩
    refine iteF ?_
    refine ⟨_, rfl, _, rfl, rfl, _, rfl, ?_⟩
    refine iteNS rfl ?_
    have tabs : LamX.Tabs [(P0, LQ ++ "<lambda>")] H3 := fun y hy => by
      rw [List.mem_singleton.mp hy]
      exact LamX.TabS.nil (e3 _ _ (e2 _ _ (e1 _ _ hP0)))
    refine ⟨tabs, fun H4 eN T4 => ?_⟩
    have hd4 := dp_tab eN _ _ hd3
    refine ⟨v2, rfl, (by show 1 ≤ sizeLine; exact sl1000 (by decide)), fun p np => ?_⟩
    have s5 := same_new np (HO.lst [V.int 1])
    refine ⟨v2, d2, p, [1], rfl, dp_same s5 _ _ hd4, SqL.of upd_same, by decide, fun g1 eg gg gd H5 e5 => ?_, fun c H5 e5 => ⟨rfl, rfl, fun H6 e6 => ?_⟩⟩
    · have : due = true := by rw [← hdue, eg]; exact isF_toD g1 12 gg gd
      subst this
      refine ⟨.bl true, rfl, rfl, _, rfl, ?_⟩
      refine iteF ?_
      exact qL v2 d2 true _ _ _ _ H5 (LamX.Tabs.ext T4 fun b o h => e5 _ _ (s5 _ _ h)) (dp_same (s5.trans e5) _ _ hd4) hdue
    · have : due = false := by rw [← hdue]; exact c
      subst this
      refine ⟨.bl false, rfl, rfl, _, rfl, ?_⟩
      refine iteF ?_
      exact qL v2 d2 false _ _ _ _ H6 (LamX.Tabs.ext T4 fun b o h => e6 _ _ (e5 _ _ (s5 _ _ h))) (dp_same (s5.trans (e5.trans e6)) _ _ hd4) hdue
  refine ⟨_, (pss_cons (ps_set (i := 1) scLaw.nd rfl (.inl rfl) (pe_callH C r1 (by rfl) (pa_cons (pv 0) (pa_cons pe_int pa_nil))))
    (pss_cons (ps_set (i := 2) scLaw.nd rfl (.inl rfl) (pe_op op_mod (pe_callH C r1 (by rfl) (pa_cons (pv 0) (pa_cons pe_int pa_nil))) pe_int))
    (pss_cons (ps_set (i := 3) scLaw.nd rfl (.inl rfl) (pe_op op_mod (pe_callH C r1 (by rfl) (pa_cons (pv 0) (pa_cons pe_int pa_nil))) pe_int))
    (pss_cons (ps_set (i := 4) scLaw.nd rfl (.inl rfl) (pe_cmpR op_gt (pv 3) pe_int (nomark _)))
    (pss_cons (ps_if (pt_val (pv 4)) (pss_cons (ps_set (i := 6) scLaw.nd rfl (.inr rfl) (pe_callH GO r1 (by rfl) (pa_cons (pv 1) pa_nil)))
        (pss_one (ps_set (i := 4) scLaw.nd rfl (.inl rfl) (pe_cmpR op_le (pe_op op_add (pv 2) (pe_ix ix_list (pe_lst (pa_cons pe_int (pa_cons pe_int (pa_cons pe_int (pa_cons pe_int pa_nil))))) (pe_op op_mod (pe_op op_fdiv (pv 1) pe_int) pe_int) (fun _ _ => rfl))) pe_int (nomark _)))))
      (pss_one (ps_set (i := 6) scLaw.nd rfl (.inr rfl) (pe_ix ix_list (pe_callH TH r1 (by rfl) (pa_cons (pv 1) pa_nil)) (pv 3) (fun _ _ => rfl)))))
    hT))))).nox, ?_⟩
  refine ⟨.ref a, rfl, a, ns, 1, rfl, hS, h63, by decide, fun n => ?_⟩
  refine ⟨.ref a, rfl, a, ns, 2, rfl, hS, h63, by decide, fun c2 => ⟨c2, 12, rfl, rfl, (by show (0 : Int) < 12; decide), ?_⟩⟩
  refine ⟨.ref a, rfl, a, ns, 0, rfl, hS, h63, by decide, fun c3 => ⟨c3, 36, rfl, rfl, (by show (0 : Int) < 36; decide), ?_⟩⟩
  have m0 := mod_lo c2 (by decide : (0 : Int) < 12)
  have m1 := mod_hi c2 (by decide : (0 : Int) < 12)
  have p0 := mod_lo c3 (by decide : (0 : Int) < 36)
  have p1 := mod_hi c3 (by decide : (0 : Int) < 36)
  obtain ⟨m, hm⟩ := Int.eq_ofNat_of_zero_le m0
  dsimp only
  rw [hm] at m1 ⊢
  refine ⟨.int (c3 % 36), rfl, c3 % 36, 23, rfl, rfl, ?_⟩
  refine ⟨.bl (decide (23 < c3 % 36)), rfl, _, rfl, ?_⟩
  refine ite2 (fun c => ?_) (fun c => ?_)
  · refine ⟨.int n, rfl, n, rfl, fun v g1 H1 e1 hd gg ge => ?_⟩
    refine ⟨.int (m : Int), rfl, (by show 4 ≤ sizeLine; exact sl1000 (by decide)), fun p np => ?_⟩
    have s2 := same_new np (HO.lst [V.int 1, V.int 2, V.int 2, V.int 3])
    refine ⟨.int n, rfl, n, 100, rfl, rfl, ⟨by decide, by decide⟩, n / 100, 4, rfl, rfl, (by show (0 : Int) < 4; decide), p, _, _, _, rfl, rfl, SqL.of upd_same, ge, (m : Int), (g1.dep : Int), rfl, rfl, (m : Int) + (g1.dep : Int), 12, rfl, rfl, ?_⟩
    refine qT v g1.toD _ m n _ _ (e1.trans s2) (dp_same s2 _ _ hd) (by omega) fun d' wr => ?_
    obtain ⟨g2, rfl, k1, k2⟩ := wr.2 g1 rfl gg
    rw [isF_fm k1, k2]
    by_cases z : g1.dep + m ≤ 12
    · rw [decide_eq_true z, decide_eq_true (by omega)]
    · rw [decide_eq_false z, decide_eq_false (by omega)]
  · have le : c3 % 36 ≤ 23 := by
      by_cases z : 23 < c3 % 36
      · exact absurd (decide_eq_true z) c
      · omega
    refine ⟨.int n, rfl, n, rfl, fun r ys H1 e1 k1 d1 => ?_⟩
    have l1 : ys.length = 24 := dpAll_len d1
    obtain ⟨u, hu, eu⟩ := at_any (zs := ys) p0 (by omega)
    obtain ⟨j, hj⟩ := List.getElem?_of_mem hu
    obtain ⟨y, hy, hd'⟩ := dpAll_get d1 hj
    have nv := bads_nev n y (List.mem_of_getElem? hy)
    refine ⟨.int (c3 % 36), rfl, r, ys, _, u, rfl, rfl, SqL.of k1, eu, ?_⟩
    exact qT u y (decide (23 < c3 % 36)) m n _ H1 e1 hd' (by omega) fun d' wr => (wr.1 nv 12).trans (decide_eq_false (by omega)).symm
end
end Lm
set_option Elab.async false
set_option linter.all false
set_option maxRecDepth 100000
set_option maxHeartbeats 2000000
namespace Lm
open PySem PySem.Spec PyProof.Rows L2
theorem kit_self {K : PySem.W.Frag} (D : Addr) : PySem.W.kitOne K (.ref D) (.ref D) = some true := by
  unfold PySem.W.kitOne
  rw [if_pos (beq_self_eq_true _)]
theorem kit_ref {K : PySem.W.Frag} {D C : Addr} {b : Bool} (hd : PySem.W.hasDictIn K C = true) (ht : PySem.W.typeIn K (.ref C) = some (.type "type")) (hs : PySem.W.subIn K (.ref D) (.ref C) = some b) (ne : (Value.ref D == Value.ref C) = false) : PySem.W.kitOne K (.ref D) (.ref C) = some b := by
  obtain ⟨cd, hc, _⟩ := PySem.W.any_some hd
  have e2 : ((PySem.W.clsIn K C).isSome && PySem.W.typeIn K (.ref C) == some (.type "type")) = true := by rw [hc, ht] <;> rfl
  unfold PySem.W.kitOne
  rw [ne, if_neg Bool.false_ne_true]
  show (if ((PySem.W.clsIn K C).isSome && PySem.W.typeIn K (.ref C) == some (.type "type")) = true then PySem.W.subIn K (.ref D) (.ref C) else none) = some b
  rw [if_pos e2, hs]
theorem kit_bi {K : PySem.W.Frag} {D : Addr} {T : String} {b : Bool} (hm : PySem.W.kitMeta T = true) (hs : PySem.W.subIn K (.ref D) (.type T) = some b) : PySem.W.kitOne K (.ref D) (.type T) = some b := by
  unfold PySem.W.kitOne
  rw [show (Value.ref D == Value.type T) = false from rfl, if_neg Bool.false_ne_true]
  show (if PySem.W.kitMeta T = true then PySem.W.subIn K (.ref D) (.type T) else none) = some b
  rw [if_pos hm, hs]
theorem isStr_str (y : Str) (t : Tok) (x : Str) : Value.isStr (.str y t) x = (y == x) := rfl
theorem many_mk {K : PySem.W.Frag} {w : World} {dd : Addr} {t1 t2 t3 t4 u1 u2 u3 u4 : Tok} {g1 g2 g3 g4 : Int} {m : Nat}
    (ld : K.lookup dd = some ⟨.type "dict", none, .dict #[⟨g1, .str "not" t1, .int 1 u1⟩, ⟨g2, .str "and" t2, .int 2 u2⟩, ⟨g3, .str "or" t3, .int 2 u3⟩, ⟨g4, .str "then" t4, .int 2 u4⟩] m, #[]⟩)
    (e1 : g1 = PyData.keyHash w.params "not") (e2 : g2 = PyData.keyHash w.params "and") (e3 : g3 = PyData.keyHash w.params "or") (e4 : g4 = PyData.keyHash w.params "then") (low : (dd == sysModules) = false) :
    ManyD K w dd #[⟨g1, .str "not" t1, .int 1 u1⟩, ⟨g2, .str "and" t2, .int 2 u2⟩, ⟨g3, .str "or" t3, .int 2 u3⟩, ⟨g4, .str "then" t4, .int 2 u4⟩] m := by
  have at_ : ∀ x : Str, PySem.W.nsIn K dd x = (match [(⟨g1, .str "not" t1, .int 1 u1⟩ : DictEntry), ⟨g2, .str "and" t2, .int 2 u2⟩, ⟨g3, .str "or" t3, .int 2 u3⟩, ⟨g4, .str "then" t4, .int 2 u4⟩].find? (·.key.isStr x) with
      | some e => some (some e.val)
      | none => some none) := fun x => by
    unfold PySem.W.nsIn
    rw [ld]
    rfl
  have n1 : (("not" : Str) == ("and" : Str)) = false := by decide +kernel
  have n2 : (("not" : Str) == ("or" : Str)) = false := by decide +kernel
  have n3 : (("not" : Str) == ("then" : Str)) = false := by decide +kernel
  have n4 : (("and" : Str) == ("or" : Str)) = false := by decide +kernel
  have n5 : (("and" : Str) == ("then" : Str)) = false := by decide +kernel
  have n6 : (("or" : Str) == ("then" : Str)) = false := by decide +kernel
  refine ⟨⟨ld, ⟨⟨_, _, rfl, e1⟩, ⟨_, _, rfl, e2⟩, ⟨_, _, rfl, e3⟩, ⟨_, _, rfl, e4⟩, True.intro⟩, low⟩, ⟨u1, ?_⟩, ⟨u2, ?_⟩, ⟨u3, ?_⟩, ⟨u4, ?_⟩, fun x hx => ?_⟩
  · rw [at_]
    simp only [List.find?_cons, isStr_str, beq_self_eq_true]
  · rw [at_]
    simp only [List.find?_cons, isStr_str, beq_self_eq_true, n1]
  · rw [at_]
    simp only [List.find?_cons, isStr_str, beq_self_eq_true, n2, n4]
  · rw [at_]
    simp only [List.find?_cons, isStr_str, beq_self_eq_true, n3, n5, n6]
  · rw [at_]
    unfold arOf at hx
    split at hx
    · cases hx
    rename_i h1
    split at hx
    · cases hx
    rename_i h2
    split at hx
    · cases hx
    rename_i h3
    split at hx
    · cases hx
    rename_i h4
    have k1 : (("not" : Str) == x) = false := beq_eq_false_iff_ne.mpr fun z => h1 z.symm
    have k2 : (("and" : Str) == x) = false := beq_eq_false_iff_ne.mpr fun z => h2 z.symm
    have k3 : (("or" : Str) == x) = false := beq_eq_false_iff_ne.mpr fun z => h3 z.symm
    have k4 : (("then" : Str) == x) = false := beq_eq_false_iff_ne.mpr fun z => h4 z.symm
    simp only [List.find?_cons, isStr_str, k1, k2, k3, k4, List.find?_nil]
theorem all_mk {l : PySem.W.OpenLaw} {w : World} {K : PySem.W.Frag} {h : Heap} {mg : Str → Option Value} {fa dd cc P0 : Addr} (X : K.In h) (G : h.Ns mainGlobals mg) (hfa : mg "law" = some (.ref fa)) (own : LamX.OwnTab K fa h)
    {f0 f1 f2 f3 f4 f5 f6 f7 f8 f9 f10 f11 f12 f13 f14 f15 f16 CL C0 C1 C2 C3 : Addr} {od0 an0 od1 an1 od2 an2 od3 an3 od4 an4 od5 an5 od6 an6 od7 an7 od8 an8 od9 an9 od10 an10 od11 an11 od12 an12 od13 an13 od14 an14 od15 an15 od16 an16 ccd : Option Addr} {sl0 sl1 sl2 sl3 sl4 sl5 sl6 sl7 sl8 sl9 sl10 sl11 sl12 sl13 sl14 sl15 sl16 csl : Array (Option Value)} {oc0 kV0 dc0 pm0 cd0 ct0 oc1 kV1 dc1 pm1 cd1 ct1 oc2 kV2 dc2 pm2 cd2 ct2 oc3 kV3 dc3 pm3 cd3 ct3 oc4 kV4 dc4 pm4 cd4 ct4 oc5 kV5 dc5 pm5 cd5 ct5 oc6 kV6 dc6 pm6 cd6 ct6 oc7 kV7 dc7 pm7 cd7 ct7 oc8 kV8 dc8 pm8 cd8 ct8 oc9 kV9 dc9 pm9 cd9 ct9 oc10 kV10 dc10 pm10 cd10 ct10 oc11 kV11 dc11 pm11 cd11 ct11 oc12 kV12 dc12 pm12 cd12 ct12 oc13 kV13 dc13 pm13 cd13 ct13 oc14 kV14 dc14 pm14 cd14 ct14 oc15 kV15 dc15 pm15 cd15 ct15 oc16 kV16 dc16 pm16 ct16 cce : Value} {cvs : Array Value}
    {tc0 tc1 t1 t2 t3 t4 u1 u2 u3 u4 : Tok} {g1 g2 g3 g4 : Int} {m : Nat}
    (a0 : PySem.W.nsIn K mainGlobals "is_number" = some (some (.ref f0))) (l0 : K.lookup f0 = some ⟨oc0, od0, .func (PySem.W.fnOf "is_number" "is_number" (defArgs sIsNum) (defBody sIsNum) (defScope sIsNum) .none kV0 dc0 pm0 an0 cd0 ct0), sl0⟩) (c0 : PySem.W.codeIn K cd0 "is_number" = true) (k0 : PySem.W.keepIn K (.ref f0) = true)
    (a1 : PySem.W.nsIn K mainGlobals "is_formula" = some (some (.ref f1))) (l1 : K.lookup f1 = some ⟨oc1, od1, .func (PySem.W.fnOf "is_formula" "is_formula" (defArgs sIsFormula) (defBody sIsFormula) (defScope sIsFormula) .none kV1 dc1 pm1 an1 cd1 ct1), sl1⟩) (c1 : PySem.W.codeIn K cd1 "is_formula" = true) (k1 : PySem.W.keepIn K (.ref f1) = true)
    (a2 : PySem.W.nsIn K mainGlobals "_is_formula_of" = some (some (.ref f2))) (l2 : K.lookup f2 = some ⟨oc2, od2, .func (PySem.W.fnOf "_is_formula_of" "_is_formula_of" (defArgs sIsF) (defBody sIsF) (defScope sIsF) .none kV2 dc2 pm2 an2 cd2 ct2), sl2⟩) (c2 : PySem.W.codeIn K cd2 "_is_formula_of" = true) (k2 : PySem.W.keepIn K (.ref f2) = true)
    (a3 : PySem.W.nsIn K mainGlobals "_is_sign" = some (some (.ref f3))) (l3 : K.lookup f3 = some ⟨oc3, od3, .func (PySem.W.fnOf "_is_sign" "_is_sign" (defArgs sIsSign) (defBody sIsSign) (defScope sIsSign) .none kV3 dc3 pm3 an3 cd3 ct3), sl3⟩) (c3 : PySem.W.codeIn K cd3 "_is_sign" = true) (k3 : PySem.W.keepIn K (.ref f3) = true)
    (a4 : PySem.W.nsIn K mainGlobals "refuse_no_formula" = some (some (.ref f4))) (l4 : K.lookup f4 = some ⟨oc4, od4, .func (PySem.W.fnOf "refuse_no_formula" "refuse_no_formula" (defArgs sRefuse) (defBody sRefuse) (defScope sRefuse) .none kV4 dc4 pm4 an4 cd4 ct4), sl4⟩) (c4 : PySem.W.codeIn K cd4 "refuse_no_formula" = true) (k4 : PySem.W.keepIn K (.ref f4) = true)
    (a5 : PySem.W.nsIn K mainGlobals "inner_formulas" = some (some (.ref f5))) (l5 : K.lookup f5 = some ⟨oc5, od5, .func (PySem.W.fnOf "inner_formulas" "inner_formulas" (defArgs sInner) (defBody sInner) (defScope sInner) .none kV5 dc5 pm5 an5 cd5 ct5), sl5⟩) (c5 : PySem.W.codeIn K cd5 "inner_formulas" = true) (k5 : PySem.W.keepIn K (.ref f5) = true)
    (a6 : PySem.W.nsIn K mainGlobals "spelled" = some (some (.ref f6))) (l6 : K.lookup f6 = some ⟨oc6, od6, .func (PySem.W.fnOf "spelled" "spelled" (defArgs sSpelled) (defBody sSpelled) (defScope sSpelled) .none kV6 dc6 pm6 an6 cd6 ct6), sl6⟩) (c6 : PySem.W.codeIn K cd6 "spelled" = true) (k6 : PySem.W.keepIn K (.ref f6) = true)
    (a7 : PySem.W.nsIn K mainGlobals "parts" = some (some (.ref f7))) (l7 : K.lookup f7 = some ⟨oc7, od7, .func (PySem.W.fnOf "parts" "parts" (defArgs sParts) (defBody sParts) (defScope sParts) .none kV7 dc7 pm7 an7 cd7 ct7), sl7⟩) (c7 : PySem.W.codeIn K cd7 "parts" = true) (k7 : PySem.W.keepIn K (.ref f7) = true)
    (a8 : PySem.W.nsIn K mainGlobals "_find_parts" = some (some (.ref f8))) (l8 : K.lookup f8 = some ⟨oc8, od8, .func (PySem.W.fnOf "_find_parts" "_find_parts" (defArgs sFind) (defBody sFind) (defScope sFind) .none kV8 dc8 pm8 an8 cd8 ct8), sl8⟩) (c8 : PySem.W.codeIn K cd8 "_find_parts" = true) (k8 : PySem.W.keepIn K (.ref f8) = true)
    (a9 : PySem.W.nsIn K mainGlobals "truth" = some (some (.ref f9))) (l9 : K.lookup f9 = some ⟨oc9, od9, .func (PySem.W.fnOf "truth" "truth" (defArgs sTruth) (defBody sTruth) (defScope sTruth) .none kV9 dc9 pm9 an9 cd9 ct9), sl9⟩) (c9 : PySem.W.codeIn K cd9 "truth" = true) (k9 : PySem.W.keepIn K (.ref f9) = true)
    (a10 : PySem.W.nsIn K mainGlobals "_is_true" = some (some (.ref f10))) (l10 : K.lookup f10 = some ⟨oc10, od10, .func (PySem.W.fnOf "_is_true" "_is_true" (defArgs sIsTrue) (defBody sIsTrue) (defScope sIsTrue) .none kV10 dc10 pm10 an10 cd10 ct10), sl10⟩) (c10 : PySem.W.codeIn K cd10 "_is_true" = true) (k10 : PySem.W.keepIn K (.ref f10) = true)
    (a11 : PySem.W.nsIn K mainGlobals "_law_cell_at" = some (some (.ref f11))) (l11 : K.lookup f11 = some ⟨oc11, od11, .func (PySem.W.fnOf "_law_cell_at" "_law_cell_at" (defArgs sCell) (defBody sCell) (defScope sCell) .none kV11 dc11 pm11 an11 cd11 ct11), sl11⟩) (c11 : PySem.W.codeIn K cd11 "_law_cell_at" = true) (k11 : PySem.W.keepIn K (.ref f11) = true)
    (a12 : PySem.W.nsIn K mainGlobals "_law_things" = some (some (.ref f12))) (l12 : K.lookup f12 = some ⟨oc12, od12, .func (PySem.W.fnOf "_law_things" "_law_things" (defArgs sThings) (defBody sThings) (defScope sThings) .none kV12 dc12 pm12 an12 cd12 ct12), sl12⟩) (c12 : PySem.W.codeIn K cd12 "_law_things" = true) (k12 : PySem.W.keepIn K (.ref f12) = true)
    (a13 : PySem.W.nsIn K mainGlobals "_law_good" = some (some (.ref f13))) (l13 : K.lookup f13 = some ⟨oc13, od13, .func (PySem.W.fnOf "_law_good" "_law_good" (defArgs sGood) (defBody sGood) (defScope sGood) .none kV13 dc13 pm13 an13 cd13 ct13), sl13⟩) (c13 : PySem.W.codeIn K cd13 "_law_good" = true) (k13 : PySem.W.keepIn K (.ref f13) = true)
    (a14 : PySem.W.nsIn K mainGlobals "_law_around" = some (some (.ref f14))) (l14 : K.lookup f14 = some ⟨oc14, od14, .func (PySem.W.fnOf "_law_around" "_law_around" (defArgs sAround) (defBody sAround) (defScope sAround) .none kV14 dc14 pm14 an14 cd14 ct14), sl14⟩) (c14 : PySem.W.codeIn K cd14 "_law_around" = true) (k14 : PySem.W.keepIn K (.ref f14) = true)
    (a15 : PySem.W.nsIn K mainGlobals "_law_refused" = some (some (.ref f15))) (l15 : K.lookup f15 = some ⟨oc15, od15, .func (PySem.W.fnOf "_law_refused" "_law_refused" (defArgs sRefused) (defBody sRefused) (defScope sRefused) .none kV15 dc15 pm15 an15 cd15 ct15), sl15⟩) (c15 : PySem.W.codeIn K cd15 "_law_refused" = true) (k15 : PySem.W.keepIn K (.ref f15) = true)
    (a16 : PySem.W.nsIn K mainGlobals "law" = some (some (.ref f16))) (l16 : K.lookup f16 = some ⟨oc16, od16, .func (PySem.W.fnOf "law" "law" (defArgs sLaw) (defBody sLaw) (defScope sLaw) .none kV16 dc16 pm16 an16 (.ref cc) ct16), sl16⟩) (c16 : PySem.W.codeIn K (.ref cc) "law" = true) (k16 : PySem.W.keepIn K (.ref f16) = true)
    (n0 : PySem.W.nsIn K mainGlobals "MOST_SIGN" = some (some (.int 99 tc0)))
    (n1 : PySem.W.nsIn K mainGlobals "MOST_DEEP" = some (some (.int 12 tc1)))
    (md : PySem.W.nsIn K mainGlobals "MANY_INNER" = some (some (.ref dd))) (ld : K.lookup dd = some ⟨.type "dict", none, .dict #[⟨g1, .str "not" t1, .int 1 u1⟩, ⟨g2, .str "and" t2, .int 2 u2⟩, ⟨g3, .str "or" t3, .int 2 u3⟩, ⟨g4, .str "then" t4, .int 2 u4⟩] m, #[]⟩)
    (e1 : g1 = PyData.keyHash w.params "not") (e2 : g2 = PyData.keyHash w.params "and") (e3 : g3 = PyData.keyHash w.params "or") (e4 : g4 = PyData.keyHash w.params "then") (low : (dd == sysModules) = false)
    (lc : K.lookup cc = some ⟨cce, ccd, .fields cvs, csl⟩) (v11 : cvs[11]? = some (.ref P0)) (nP : K.lookup P0 = none) (hdr : PySem.W.codeHdIn K cc P0 = true)
    (mCL : PySem.W.nsIn K mainGlobals "LineError" = some (some (.ref CL)))
    (mC0 : PySem.W.nsIn K mainGlobals "BadFormula" = some (some (.ref C0)))
    (mC1 : PySem.W.nsIn K mainGlobals "BadClaim" = some (some (.ref C1)))
    (mC2 : PySem.W.nsIn K mainGlobals "BadChain" = some (some (.ref C2)))
    (mC3 : PySem.W.nsIn K mainGlobals "NoLemma" = some (some (.ref C3)))
    (EX : ErrK K C0) (xcl : PySem.W.exmOne K (.ref C0) (.ref CL) = some true) (x0 : PySem.W.kitOne K (.ref C0) (.ref C0) = some true) (xv : PySem.W.kitOne K (.ref C0) (.type "ValueError") = some true) (x1 : PySem.W.kitOne K (.ref C0) (.ref C1) = some false) (x2 : PySem.W.kitOne K (.ref C0) (.ref C2) = some false) (x3 : PySem.W.kitOne K (.ref C0) (.ref C3) = some false)
    (z0 : PySem.W.nsIn K mainGlobals "isinstance" = some none) (z1 : PySem.W.nsIn K mainGlobals "int" = some none) (z2 : PySem.W.nsIn K mainGlobals "bool" = some none) (z3 : PySem.W.nsIn K mainGlobals "tuple" = some none) (z4 : PySem.W.nsIn K mainGlobals "str" = some none) (z5 : PySem.W.nsIn K mainGlobals "list" = some none) (z6 : PySem.W.nsIn K mainGlobals "len" = some none) (z7 : PySem.W.nsIn K mainGlobals "all" = some none) (z8 : PySem.W.nsIn K mainGlobals "range" = some none) (z9 : PySem.W.nsIn K mainGlobals "any" = some none) (z10 : PySem.W.nsIn K mainGlobals "ValueError" = some none) :
    LamX.LawAtS l w K CX0 31 63 "_law_script" mg fa h := by
  have e := hfa.symm.trans (PySem.W.mg_of X G a16)
  cases e
  have D0 : Df K mg "is_number" sIsNum ["thing"] _ _ := ⟨fun_mk (st := sIsNum) l0 c0 k0, (fun_mk (st := sIsNum) l0 c0 k0).binds (ps := ["thing"]) (fun _ _ _ _ _ _ us hl => match us, hl with | [_], _ => rfl), PySem.W.mg_of X G a0⟩
  have D1 : Df K mg "is_formula" sIsFormula ["thing"] _ _ := ⟨fun_mk (st := sIsFormula) l1 c1 k1, (fun_mk (st := sIsFormula) l1 c1 k1).binds (ps := ["thing"]) (fun _ _ _ _ _ _ us hl => match us, hl with | [_], _ => rfl), PySem.W.mg_of X G a1⟩
  have D2 : Df K mg "_is_formula_of" sIsF ["thing", "deep"] _ _ := ⟨fun_mk (st := sIsF) l2 c2 k2, (fun_mk (st := sIsF) l2 c2 k2).binds (ps := ["thing", "deep"]) (fun _ _ _ _ _ _ us hl => match us, hl with | [_, _], _ => rfl), PySem.W.mg_of X G a2⟩
  have D3 : Df K mg "_is_sign" sIsSign ["thing"] _ _ := ⟨fun_mk (st := sIsSign) l3 c3 k3, (fun_mk (st := sIsSign) l3 c3 k3).binds (ps := ["thing"]) (fun _ _ _ _ _ _ us hl => match us, hl with | [_], _ => rfl), PySem.W.mg_of X G a3⟩
  have D4 : Df K mg "refuse_no_formula" sRefuse ["thing"] _ _ := ⟨fun_mk (st := sRefuse) l4 c4 k4, (fun_mk (st := sRefuse) l4 c4 k4).binds (ps := ["thing"]) (fun _ _ _ _ _ _ us hl => match us, hl with | [_], _ => rfl), PySem.W.mg_of X G a4⟩
  have D5 : Df K mg "inner_formulas" sInner ["f"] _ _ := ⟨fun_mk (st := sInner) l5 c5 k5, (fun_mk (st := sInner) l5 c5 k5).binds (ps := ["f"]) (fun _ _ _ _ _ _ us hl => match us, hl with | [_], _ => rfl), PySem.W.mg_of X G a5⟩
  have D6 : Df K mg "spelled" sSpelled ["f"] _ _ := ⟨fun_mk (st := sSpelled) l6 c6 k6, (fun_mk (st := sSpelled) l6 c6 k6).binds (ps := ["f"]) (fun _ _ _ _ _ _ us hl => match us, hl with | [_], _ => rfl), PySem.W.mg_of X G a6⟩
  have D7 : Df K mg "parts" sParts ["f"] _ _ := ⟨fun_mk (st := sParts) l7 c7 k7, (fun_mk (st := sParts) l7 c7 k7).binds (ps := ["f"]) (fun _ _ _ _ _ _ us hl => match us, hl with | [_], _ => rfl), PySem.W.mg_of X G a7⟩
  have D8 : Df K mg "_find_parts" sFind ["f", "found"] _ _ := ⟨fun_mk (st := sFind) l8 c8 k8, (fun_mk (st := sFind) l8 c8 k8).binds (ps := ["f", "found"]) (fun _ _ _ _ _ _ us hl => match us, hl with | [_, _], _ => rfl), PySem.W.mg_of X G a8⟩
  have D9 : Df K mg "truth" sTruth ["f", "world"] _ _ := ⟨fun_mk (st := sTruth) l9 c9 k9, (fun_mk (st := sTruth) l9 c9 k9).binds (ps := ["f", "world"]) (fun _ _ _ _ _ _ us hl => match us, hl with | [_, _], _ => rfl), PySem.W.mg_of X G a9⟩
  have D10 : Df K mg "_is_true" sIsTrue ["f", "true_signs"] _ _ := ⟨fun_mk (st := sIsTrue) l10 c10 k10, (fun_mk (st := sIsTrue) l10 c10 k10).binds (ps := ["f", "true_signs"]) (fun _ _ _ _ _ _ us hl => match us, hl with | [_, _], _ => rfl), PySem.W.mg_of X G a10⟩
  have D11 : Df K mg "_law_cell_at" sCell ["_law_script", "_law_k"] _ _ := ⟨fun_mk (st := sCell) l11 c11 k11, (fun_mk (st := sCell) l11 c11 k11).binds (ps := ["_law_script", "_law_k"]) (fun _ _ _ _ _ _ us hl => match us, hl with | [_, _], _ => rfl), PySem.W.mg_of X G a11⟩
  have D12 : Df K mg "_law_things" sThings ["_law_n"] _ _ := ⟨fun_mk (st := sThings) l12 c12 k12, (fun_mk (st := sThings) l12 c12 k12).binds (ps := ["_law_n"]) (fun _ _ _ _ _ _ us hl => match us, hl with | [_], _ => rfl), PySem.W.mg_of X G a12⟩
  have D13 : Df K mg "_law_good" sGood ["_law_n"] _ _ := ⟨fun_mk (st := sGood) l13 c13 k13, (fun_mk (st := sGood) l13 c13 k13).binds (ps := ["_law_n"]) (fun _ _ _ _ _ _ us hl => match us, hl with | [_], _ => rfl), PySem.W.mg_of X G a13⟩
  have D14 : Df K mg "_law_around" sAround ["_law_script", "_law_thing", "_law_many", "_law_n"] _ _ := ⟨fun_mk (st := sAround) l14 c14 k14, (fun_mk (st := sAround) l14 c14 k14).binds (ps := ["_law_script", "_law_thing", "_law_many", "_law_n"]) (fun _ _ _ _ _ _ us hl => match us, hl with | [_, _, _, _], _ => rfl), PySem.W.mg_of X G a14⟩
  have D15 : Df K mg "_law_refused" sRefused ["_law_deed"] _ _ := ⟨fun_mk (st := sRefused) l15 c15 k15, (fun_mk (st := sRefused) l15 c15 k15).binds (ps := ["_law_deed"]) (fun _ _ _ _ _ _ us hl => match us, hl with | [_], _ => rfl), PySem.W.mg_of X G a15⟩
  have D16 : Df K mg "law" sLaw ["_law_script"] _ _ := ⟨fun_mk (st := sLaw) l16 c16 k16, (fun_mk (st := sLaw) l16 c16 k16).binds (ps := ["_law_script"]) (fun _ _ _ _ _ _ us hl => match us, hl with | [_], _ => rfl), PySem.W.mg_of X G a16⟩
  have M : ManyD K w dd _ m := many_mk ld e1 e2 e3 e4 low
  have mM := PySem.W.mg_of X G md
  have b_isinstance := PySem.W.mg_none_of X G z0
  have b_int := PySem.W.mg_none_of X G z1
  have b_bool := PySem.W.mg_none_of X G z2
  have b_tuple := PySem.W.mg_none_of X G z3
  have b_str := PySem.W.mg_none_of X G z4
  have b_list := PySem.W.mg_none_of X G z5
  have b_len := PySem.W.mg_none_of X G z6
  have b_all := PySem.W.mg_none_of X G z7
  have b_range := PySem.W.mg_none_of X G z8
  have b_any := PySem.W.mg_none_of X G z9
  have b_ValueError := PySem.W.mg_none_of X G z10
  have B : Blt mg := ⟨b_isinstance, b_int, b_bool, b_tuple, b_str, b_list, b_len, b_all⟩
  have m_MOST_SIGN := PySem.W.mg_of X G n0
  have m_MOST_DEEP := PySem.W.mg_of X G n1
  have qCL := PySem.W.mg_of X G mCL
  have qC0 := PySem.W.mg_of X G mC0
  have qC1 := PySem.W.mg_of X G mC1
  have qC2 := PySem.W.mg_of X G mC2
  have qC3 := PySem.W.mg_of X G mC3
  have RK : RefdK K mg CL C0 C1 C2 C3 := ⟨EX, xcl, x0, xv, x1, x2, x3, qCL, qC0, qC1, qC2, qC3, b_isinstance, b_any, b_ValueError⟩
  refine ⟨PySem.W.fnOf "law" "law" (defArgs sLaw) (defBody sLaw) (defScope sLaw) .none kV16 dc16 pm16 an16 (.ref cc) ct16, [(cc, P0)], spLaw K P0, fun p hp => ?_, fun p hp => ?_, fun p hp => ?_, fun s v => .of_eq rfl, fun H a ns hl _ hT hS => ⟨a, ns, rfl, hS, hl, hT _ (List.mem_singleton.mpr rfl), fun _ => rfl⟩, fun base _ _ tb => ?_⟩
  · rw [List.mem_singleton.mp hp]
    exact own cc P0 _ _ _ _ _ _ l16 rfl rfl lc v11
  · rw [List.mem_singleton.mp hp]
    exact nP
  · rw [List.mem_singleton.mp hp]
    exact PySem.W.codeHd_of_K X hdr
  have TB := tb (cc, P0) (List.mem_singleton.mpr rfl)
  have N := D0.has (P := l.prog) (w := w) (base := base) (ok_isNum D0 B)
  have S := D3.has (ok_isSign D3 N m_MOST_SIGN)
  have F13 := all_isF D2 B S M mM 13
  have IF := D1.has (ok_isFormula D1 F13 m_MOST_DEEP)
  have R := D4.hasN (ok_refuse D4 IF EX qC0)
  have I := D5.has (P := l.prog) (w := w) (base := base) (ok_inner D5)
  have SP := all_spelled D6 B I 13
  have FP := all_find D8 SP I 13
  have PA := D7.hasN (ok_partsN D7 B R FP)
  have IT := all_isTrue D10 I 13
  have TR := D9.hasN (ok_truthN D9 R N IT)
  have C := D11.has (P := l.prog) (w := w) (base := base) (ok_cell D11 B)
  have TH := D12.has (P := l.prog) (w := w) (base := base) (ok_things D12 B)
  have GO := D13.has (P := l.prog) (w := w) (base := base) (ok_good D13)
  have AR := D14.has (ok_around D14 b_range C)
  exact ok_law l16 c16 TB B m_MOST_SIGN m_MOST_DEEP D15 RK C TH GO AR IF TR PA
theorem walk {l : PySem.W.OpenLaw} {q : Program} {loose : List Str} {XP : (Str → Option Value) → Heap → Prop} {YP : World → Heap → Prop} {d : DefRec} {K : Params → PySem.W.Frag} (hn : l.most = some 63) (hdf : d.params.defaults = []) (hrec : ((recsOf q).any fun e => e.name == d.name) = true)
    (hY : ∀ (w : World) (h : Heap), YP w h → (K w.params).In h)
    (F : ∀ (w : World) (mg : Str → Option Value) (fa : Addr) (h : Heap), YP w h → (K w.params).In h → h.Ns mainGlobals mg → mg d.name = some (.ref fa) → LamX.OwnTab (K w.params) fa h → LamX.LawAtS l w (K w.params) CX0 31 63 "_law_script" mg fa h) :
    PySem.W.WalkO q loose XP YP l.row.toRowW d [] (fun f vs => PySem.call f vs) :=
  LamX.walk_ofOwn (n := 63) (k := 31) (x := "_law_script") (CX := fun _ => CX0) hn (by decide) hdf ⟨rfl, by decide, by decide⟩ hrec hY F (fun _ _ _ _ _ z => z)
end Lm
set_option Elab.async false
set_option linter.all false
set_option maxRecDepth 100000
namespace Lm
end Lm
open PySem PySem.W PyProof.Rows
set_option maxRecDepth 100000 in
set_option maxHeartbeats 0 in
theorem PySem.Challenge.cw_lemmaless_k02_what_is_no_formula_holds : PySem.Challenge.rw_lemmaless_k02_what_is_no_formula.Holds := by
  w_on; o_law; k_head; (case hw => w_witness2)
  k_fill
  refine Lm.walk (l := PySem.Challenge.rw_lemmaless_k02_what_is_no_formula) rfl rfl (by first | rfl | decide +kernel) (fun w h Y => PySem.W.km_in_of Y) ?F
  case F =>
    intro w mg fa h Y KX G hmg own
    refine' Lm.all_mk KX G hmg own ?a0 ?l0 ?c0 ?k0 ?a1 ?l1 ?c1 ?k1 ?a2 ?l2 ?c2 ?k2 ?a3 ?l3 ?c3 ?k3 ?a4 ?l4 ?c4 ?k4 ?a5 ?l5 ?c5 ?k5 ?a6 ?l6 ?c6 ?k6 ?a7 ?l7 ?c7 ?k7 ?a8 ?l8 ?c8 ?k8 ?a9 ?l9 ?c9 ?k9 ?a10 ?l10 ?c10 ?k10 ?a11 ?l11 ?c11 ?k11 ?a12 ?l12 ?c12 ?k12 ?a13 ?l13 ?c13 ?k13 ?a14 ?l14 ?c14 ?k14 ?a15 ?l15 ?c15 ?k15 ?a16 ?l16 ?c16 ?k16 ?n0 ?n1 ?md ?ld ?e1 ?e2 ?e3 ?e4 ?low ?lc ?v11 ?nP ?hdr ?mCL ?mC0 ?mC1 ?mC2 ?mC3 ⟨⟨?x1, ?x2, ?x3, ?x4, ?x5, ?x6, ?x7, ?x8⟩, ?x9, ?x10, ?x11⟩ (PySem.W.exm_ref ?y1 ?y2 ?y3 ?y4) (Lm.kit_self _) (Lm.kit_bi (by decide +kernel) ?y5) (Lm.kit_ref ?y6 ?y7 ?y8 ?w1) (Lm.kit_ref ?y9 ?y10 ?y11 ?w2) (Lm.kit_ref ?y12 ?y13 ?y14 ?w3) ?z0 ?z1 ?z2 ?z3 ?z4 ?z5 ?z6 ?z7 ?z8 ?z9 ?z10
    (case a0 => k_is); (case l0 => k_is); (case c0 => k_is); (case k0 => k_is)
    (case a1 => k_is); (case l1 => k_is); (case c1 => k_is); (case k1 => k_is)
    (case a2 => k_is); (case l2 => k_is); (case c2 => k_is); (case k2 => k_is)
    (case a3 => k_is); (case l3 => k_is); (case c3 => k_is); (case k3 => k_is)
    (case a4 => k_is); (case l4 => k_is); (case c4 => k_is); (case k4 => k_is)
    (case a5 => k_is); (case l5 => k_is); (case c5 => k_is); (case k5 => k_is)
    (case a6 => k_is); (case l6 => k_is); (case c6 => k_is); (case k6 => k_is)
    (case a7 => k_is); (case l7 => k_is); (case c7 => k_is); (case k7 => k_is)
    (case a8 => k_is); (case l8 => k_is); (case c8 => k_is); (case k8 => k_is)
    (case a9 => k_is); (case l9 => k_is); (case c9 => k_is); (case k9 => k_is)
    (case a10 => k_is); (case l10 => k_is); (case c10 => k_is); (case k10 => k_is)
    (case a11 => k_is); (case l11 => k_is); (case c11 => k_is); (case k11 => k_is)
    (case a12 => k_is); (case l12 => k_is); (case c12 => k_is); (case k12 => k_is)
    (case a13 => k_is); (case l13 => k_is); (case c13 => k_is); (case k13 => k_is)
    (case a14 => k_is); (case l14 => k_is); (case c14 => k_is); (case k14 => k_is)
    (case a15 => k_is); (case l15 => k_is); (case c15 => k_is); (case k15 => k_is)
    (case a16 => k_is); (case l16 => k_is); (case c16 => k_is); (case k16 => k_is)
    (case n0 => k_is)
    (case n1 => k_is)
    (case md => k_is); (case ld => k_is); (case e1 => rfl); (case e2 => rfl); (case e3 => rfl); (case e4 => rfl); (case low => rfl)
    (case lc => k_is); (case v11 => rfl); (case nP => first | k_is | rfl); (case hdr => first | k_is | rfl)
    (case mCL => k_is)
    (case mC0 => k_is)
    (case mC1 => k_is)
    (case mC2 => k_is)
    (case mC3 => k_is)
    (case x1 => first | k_is | k_exc)
    (case x2 => first | k_is | k_exc)
    (case x3 => first | k_is | k_exc)
    (case x4 => first | k_is | k_exc)
    (case x5 => first | k_is | k_exc)
    (case x6 => first | k_is | k_exc)
    (case x7 => first | k_is | k_exc)
    (case x8 => first | k_is | k_exc)
    (case x9 => first | k_is | k_exc)
    (case x10 => first | k_is | k_exc)
    (case x11 => first | k_is | k_exc)
    (case y1 => k_is)
    (case y2 => k_is)
    (case y3 => k_is)
    (case y4 => k_is)
    (case y5 => k_is)
    (case y6 => k_is)
    (case y7 => k_is)
    (case y8 => k_is)
    (case y9 => k_is)
    (case y10 => k_is)
    (case y11 => k_is)
    (case y12 => k_is)
    (case y13 => k_is)
    (case y14 => k_is)
    (case w1 => first | rfl | decide)
    (case w2 => first | rfl | decide)
    (case w3 => first | rfl | decide)
    (case z0 => k_is)
    (case z1 => k_is)
    (case z2 => k_is)
    (case z3 => k_is)
    (case z4 => k_is)
    (case z5 => k_is)
    (case z6 => k_is)
    (case z7 => k_is)
    (case z8 => k_is)
    (case z9 => k_is)
    (case z10 => k_is)
#print axioms PySem.Challenge.cw_lemmaless_k02_what_is_no_formula_holds
