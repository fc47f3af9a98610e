import PyProof.Rows.All
import Wide.All
import OpenK.AllK
import Wide.FinOn
import KE.KDictList
import HandS.ForMost
import HandS.Deep
import HandS.DictComp
import HandS.IsInst
import HandS.FStr
import HandS.Style
import HandS.More
import HandS.Text
import PyProof.Rows.SeqMore
import HandS.Zip
import HandS.Exc
import HandS.ExcOwn
import HandS.TryOnly
import HandS.ExcCtx
import HandS.ExcIs
import HandS.Hot
import HandS.HotCalls
import HandS.Lambda
import HandS.SetKeys
import HandS.SetBool
import PyProof.FactsAll.set_1
import HandS.Set
import HandS.Strs
import HandS.Rev
import HandS.EndOwn
import KE.KNestM
import PySem.Challenge.RW_lemmaless_k03_claims
set_option Elab.async false
set_option linter.all false
set_option maxRecDepth 100000
/-! formulas as plain data: parts, texts, truth -/
namespace Lm
open PySem

inductive Bw where
  | an | o | th
  deriving DecidableEq
inductive Fm where
  | sg (i : Int)
  | no (f : Fm)
  | bi (w : Bw) (f g : Fm)
  deriving DecidableEq

def Bw.txt : Bw → Str
  | .an => "and"
  | .o => "or"
  | .th => "then"
theorem txt_inj : ∀ {a b : Bw}, a.txt = b.txt → a = b := by
  intro a b h
  cases a <;> cases b <;> first | rfl | exact absurd h (by decide +kernel)
theorem txt_sign : ∀ a : Bw, ¬ a.txt = ("sign" : Str) := by
  intro a; cases a <;> decide +kernel
theorem txt_not : ∀ a : Bw, ¬ a.txt = ("not" : Str) := by
  intro a; cases a <;> decide +kernel

namespace Fm
def toD : Fm → PyData
  | .sg i => .tuple [.str ("sign" : Str), .int i]
  | .no f => .tuple [.str ("not" : Str), f.toD]
  | .bi w f g => .tuple [.str w.txt, f.toD, g.toD]
def size : Fm → Nat
  | .sg _ => 1
  | .no f => f.size + 1
  | .bi _ f g => f.size + g.size + 1
def dep : Fm → Nat
  | .sg _ => 1
  | .no f => f.dep + 1
  | .bi _ f g => max f.dep g.dep + 1
def good : Fm → Prop
  | .sg i => 0 ≤ i ∧ i ≤ 99
  | .no f => f.good
  | .bi _ f g => f.good ∧ g.good
def kids : Fm → List Fm
  | .sg _ => []
  | .no f => [f]
  | .bi _ f g => [f, g]
def parts : Fm → List Fm
  | .sg i => [.sg i]
  | .no f => .no f :: f.parts
  | .bi w f g => .bi w f g :: (f.parts ++ g.parts)
def tr (S : Int → Bool) : Fm → Bool
  | .sg i => S i
  | .no f => !(f.tr S)
  | .bi .an f g => f.tr S && g.tr S
  | .bi .o f g => f.tr S || g.tr S
  | .bi .th f g => !(f.tr S) || g.tr S
theorem size_pos : ∀ f : Fm, 0 < f.size
  | .sg _ => Nat.one_pos
  | .no f => Nat.succ_pos _
  | .bi _ f g => Nat.succ_pos _
theorem dep_pos : ∀ f : Fm, 0 < f.dep
  | .sg _ => Nat.one_pos
  | .no f => Nat.succ_pos _
  | .bi _ f g => Nat.succ_pos _
theorem size_dep : ∀ f : Fm, f.size + 1 ≤ 2 ^ f.dep
  | .sg _ => by show 2 ≤ 2 ^ 1; decide
  | .no f => by
    have h := size_dep f
    have hp := size_pos f
    show f.size + 1 + 1 ≤ 2 ^ (f.dep + 1)
    rw [Nat.pow_succ]
    omega
  | .bi _ f g => by
    have h1 := size_dep f
    have h2 := size_dep g
    have m1 : 2 ^ f.dep ≤ 2 ^ (max f.dep g.dep) := Nat.pow_le_pow_right (by decide) (Nat.le_max_left _ _)
    have m2 : 2 ^ g.dep ≤ 2 ^ (max f.dep g.dep) := Nat.pow_le_pow_right (by decide) (Nat.le_max_right _ _)
    show f.size + g.size + 1 + 1 ≤ 2 ^ (max f.dep g.dep + 1)
    rw [Nat.pow_succ]
    omega
theorem self_part : ∀ f : Fm, f ∈ f.parts
  | .sg _ => List.mem_singleton.mpr rfl
  | .no _ => List.mem_cons_self
  | .bi _ _ _ => List.mem_cons_self
theorem part_size : ∀ {f p : Fm}, p ∈ f.parts → p.size ≤ f.size
  | .sg i, p, h => by
    have e : p = .sg i := List.mem_singleton.mp h
    rw [e]; exact Nat.le_refl _
  | .no f, p, h => by
    rcases List.mem_cons.mp h with e | h
    · rw [e]; exact Nat.le_refl _
    · have := part_size h
      show p.size ≤ f.size + 1
      omega
  | .bi w f g, p, h => by
    rcases List.mem_cons.mp h with e | h
    · rw [e]; exact Nat.le_refl _
    · show p.size ≤ f.size + g.size + 1
      rcases List.mem_append.mp h with h | h
      · have := part_size h
        omega
      · have := part_size h
        omega
theorem part_good : ∀ {f p : Fm}, f.good → p ∈ f.parts → p.good
  | .sg i, p, hg, h => by
    have e : p = .sg i := List.mem_singleton.mp h
    rw [e]; exact hg
  | .no f, p, hg, h => by
    rcases List.mem_cons.mp h with e | h
    · rw [e]; exact hg
    · exact part_good (f := f) hg h
  | .bi w f g, p, hg, h => by
    rcases List.mem_cons.mp h with e | h
    · rw [e]; exact hg
    · rcases List.mem_append.mp h with h | h
      · exact part_good (f := f) hg.1 h
      · exact part_good (f := g) hg.2 h
theorem part_dep : ∀ {f p : Fm}, p ∈ f.parts → p.dep ≤ f.dep
  | .sg i, p, h => by
    have e : p = .sg i := List.mem_singleton.mp h
    rw [e]; exact Nat.le_refl _
  | .no f, p, h => by
    rcases List.mem_cons.mp h with e | h
    · rw [e]; exact Nat.le_refl _
    · have := part_dep h
      show p.dep ≤ f.dep + 1
      omega
  | .bi w f g, p, h => by
    rcases List.mem_cons.mp h with e | h
    · rw [e]; exact Nat.le_refl _
    · show p.dep ≤ max f.dep g.dep + 1
      rcases List.mem_append.mp h with h | h
      · have := part_dep h
        omega
      · have := part_dep h
        omega
/-! ### data equal just where the formulas are -/
theorem e_tup (xs ys : List PyData) : PyData.eqv (.tuple xs) (.tuple ys) = PyData.eqvAll xs ys := by simp only [PyData.eqv]
theorem e_cons (x y : PyData) (xs ys : List PyData) : PyData.eqvAll (x :: xs) (y :: ys) = (PyData.eqv x y && PyData.eqvAll xs ys) := by simp only [PyData.eqvAll]
theorem e_nil : PyData.eqvAll [] [] = true := by simp only [PyData.eqvAll]
theorem e_short (y : PyData) (ys : List PyData) : PyData.eqvAll [] (y :: ys) = false := by simp only [PyData.eqvAll]
theorem e_long (y : PyData) (ys : List PyData) : PyData.eqvAll (y :: ys) [] = false := by simp only [PyData.eqvAll]
theorem e_str (x y : Str) : PyData.eqv (.str x) (.str y) = (x == y) := by simp only [PyData.eqv]
theorem e_int (x y : Int) : PyData.eqv (.int x) (.int y) = (x == y) := by simp only [PyData.eqv]
theorem toD_sg (i : Int) : (Fm.sg i).toD = .tuple [.str ("sign" : Str), .int i] := rfl
theorem toD_no (f : Fm) : (Fm.no f).toD = .tuple [.str ("not" : Str), f.toD] := rfl
theorem toD_bi (w : Bw) (f g : Fm) : (Fm.bi w f g).toD = .tuple [.str w.txt, f.toD, g.toD] := rfl
theorem toD_eqv : ∀ f g : Fm, PyData.eqv f.toD g.toD = decide (f = g)
  | .sg i, .sg j => by
    rw [toD_sg, toD_sg, e_tup, e_cons, e_cons, e_nil, e_str, e_int, beq_self_eq_true, Bool.true_and, Bool.and_true]
    by_cases h : i = j
    · rw [h, beq_self_eq_true]; exact (decide_eq_true rfl).symm
    · rw [decide_eq_false (fun q => h (Fm.sg.inj q))]; exact beq_eq_false_iff_ne.mpr h
  | .no f, .no g => by
    rw [toD_no, toD_no, e_tup, e_cons, e_cons, e_nil, e_str, beq_self_eq_true, Bool.true_and, Bool.and_true, toD_eqv f g]
    by_cases h : f = g
    · rw [h]; simp
    · rw [decide_eq_false h, decide_eq_false (fun q => h (Fm.no.inj q))]
  | .bi w f g, .bi v f' g' => by
    rw [toD_bi, toD_bi, e_tup, e_cons, e_cons, e_cons, e_nil, e_str, Bool.and_true, toD_eqv f f', toD_eqv g g']
    by_cases hw : w = v
    · subst hw
      rw [beq_self_eq_true, Bool.true_and]
      by_cases h1 : f = f'
      · subst h1
        by_cases h2 : g = g'
        · subst h2; simp
        · rw [decide_eq_false h2, Bool.and_false, decide_eq_false]
          intro q; exact h2 (Fm.bi.inj q).2.2
      · rw [decide_eq_false h1, Bool.false_and, decide_eq_false]
        intro q; exact h1 (Fm.bi.inj q).2.1
    · have q : (w.txt == v.txt) = false := beq_eq_false_iff_ne.mpr fun z => hw (txt_inj z)
      rw [q, Bool.false_and, decide_eq_false]
      intro z; exact hw (Fm.bi.inj z).1
  | .sg i, .no g => by
    rw [toD_sg, toD_no, e_tup, e_cons, e_str, show (("sign" : Str) == ("not" : Str)) = false from by decide +kernel, Bool.false_and, decide_eq_false (fun q => nomatch q)]
  | .no f, .sg j => by
    rw [toD_sg, toD_no, e_tup, e_cons, e_str, show (("not" : Str) == ("sign" : Str)) = false from by decide +kernel, Bool.false_and, decide_eq_false (fun q => nomatch q)]
  | .sg i, .bi v f g => by
    rw [toD_sg, toD_bi, e_tup, e_cons, e_cons, e_short, Bool.and_false, Bool.and_false, decide_eq_false (fun q => nomatch q)]
  | .bi v f g, .sg i => by
    rw [toD_sg, toD_bi, e_tup, e_cons, e_cons, e_long, Bool.and_false, Bool.and_false, decide_eq_false (fun q => nomatch q)]
  | .no f', .bi v f g => by
    rw [toD_no, toD_bi, e_tup, e_cons, e_cons, e_short, Bool.and_false, Bool.and_false, decide_eq_false (fun q => nomatch q)]
  | .bi v f g, .no f' => by
    rw [toD_no, toD_bi, e_tup, e_cons, e_cons, e_long, Bool.and_false, Bool.and_false, decide_eq_false (fun q => nomatch q)]
theorem toD_lay : ∀ f : Fm, f.toD.canLay0 = true
  | .sg i => by
    simp only [toD, PyData.canLay0, PyData.canLayAll0, Bool.and_true]
    decide +kernel
  | .no f => by
    have h := toD_lay f
    simp only [toD, PyData.canLay0, PyData.canLayAll0, Bool.and_true, h]
    decide +kernel
  | .bi w f g => by
    have h := toD_lay f
    have h2 := toD_lay g
    simp only [toD, PyData.canLay0, PyData.canLayAll0, Bool.and_true, h, h2]
    cases w <;> decide +kernel
theorem toD_depth : ∀ f : Fm, f.toD.depth = f.dep
  | .sg i => by simp [toD, PyData.depth, PyData.depthAll, dep]
  | .no f => by
    have h := toD_depth f
    simp [toD, PyData.depth, PyData.depthAll, dep, h]
  | .bi w f g => by
    have h := toD_depth f
    have h2 := toD_depth g
    simp [toD, PyData.depth, PyData.depthAll, dep, h, h2]
end Fm

theorem lays_all : ∀ fs : List Fm, PyData.canLayAll0 (fs.map Fm.toD) = true
  | [] => rfl
  | f :: fs => by
    have h := lays_all fs
    simp only [List.map_cons, PyData.canLayAll0, Fm.toD_lay f, h, Bool.and_true]
theorem depths_all {n : Nat} : ∀ fs : List Fm, (∀ f ∈ fs, f.dep ≤ n) → PyData.depthAll (fs.map Fm.toD) ≤ n
  | [], _ => Nat.zero_le _
  | f :: fs, h => by
    have h1 := depths_all fs fun g hg => h g (List.mem_cons_of_mem _ hg)
    have h2 := h f List.mem_cons_self
    simp only [List.map_cons, PyData.depthAll, Fm.toD_depth f]
    omega
theorem shaped_fm (f : Fm) (h : f.dep ≤ 64) : SeqAt.shaped f.toD = true := by
  show (f.toD.canLay0 && decide (f.toD.depth ≤ 64)) = true
  rw [Fm.toD_lay, Fm.toD_depth, Bool.true_and]
  exact decide_eq_true h
theorem shaped_fms (fs : List Fm) (h : ∀ f ∈ fs, f.dep ≤ 63) : SeqAt.shaped (.list (fs.map Fm.toD)) = true := by
  have h1 := depths_all fs h
  show (PyData.canLayAll0 (fs.map Fm.toD) && decide (PyData.depthAll (fs.map Fm.toD) + 1 ≤ 64)) = true
  rw [lays_all, Bool.true_and]
  exact decide_eq_true (by omega)
theorem eqv_fms (fs : List Fm) : PyData.eqv (.list (fs.map Fm.toD)) (.list (fs.map Fm.toD)) = true := SeqAt.eqv_refl _ (lays_all fs)
theorem any_fm (f : Fm) : ∀ fs : List Fm, ((fs.map Fm.toD).any fun z => PyData.eqv z f.toD) = decide (f ∈ fs)
  | [] => by simp
  | g :: fs => by
    rw [List.map_cons, List.any_cons, any_fm f fs, Fm.toD_eqv]
    by_cases h : g = f
    · subst h
      simp
    · rw [decide_eq_false h, Bool.false_or]
      by_cases h2 : f ∈ fs
      · rw [decide_eq_true h2, decide_eq_true (List.mem_cons_of_mem _ h2)]
      · rw [decide_eq_false h2, decide_eq_false]
        intro q
        rcases List.mem_cons.mp q with e | e
        · exact h e.symm
        · exact h2 e

/-! ### parts, each where it stands first: by the program's way (a part that is there is passed over), by the law's (all is walked) -/
def findP : Fm → List Fm → List Fm
  | f, acc => if f ∈ acc then acc else match f with
    | .sg i => acc ++ [.sg i]
    | .no g => findP g (acc ++ [.no g])
    | .bi w g h => findP h (findP g (acc ++ [.bi w g h]))
def walkP : Fm → List Fm → List Fm
  | .sg i, acc => if Fm.sg i ∈ acc then acc else acc ++ [.sg i]
  | .no g, acc => walkP g (if Fm.no g ∈ acc then acc else acc ++ [.no g])
  | .bi w g h, acc => walkP h (walkP g (if Fm.bi w g h ∈ acc then acc else acc ++ [.bi w g h]))
theorem findP_in {f : Fm} {acc : List Fm} (h : f ∈ acc) : findP f acc = acc := by
  cases f <;> (unfold findP; rw [if_pos h])
theorem findP_out {f : Fm} {acc : List Fm} (h : ¬ f ∈ acc) : findP f acc = f.kids.foldl (fun a g => findP g a) (acc ++ [f]) := by
  cases f <;> (rw [findP, if_neg h]; rfl)
theorem walkP_eq (f : Fm) (acc : List Fm) : walkP f acc = f.kids.foldl (fun a g => walkP g a) (if f ∈ acc then acc else acc ++ [f]) := by
  cases f <;> rfl
theorem walkP_stay : ∀ (f : Fm) (acc : List Fm), (∀ p ∈ f.parts, p ∈ acc) → walkP f acc = acc
  | .sg i, acc, h => by rw [walkP, if_pos (h _ (Fm.self_part _))]
  | .no g, acc, h => by
    rw [walkP, if_pos (h _ (Fm.self_part _))]
    exact walkP_stay g acc fun p hp => h p (List.mem_cons_of_mem _ hp)
  | .bi w g k, acc, h => by
    rw [walkP, if_pos (h _ (Fm.self_part _)), walkP_stay g acc fun p hp => h p (List.mem_cons_of_mem _ (List.mem_append_left _ hp))]
    exact walkP_stay k acc fun p hp => h p (List.mem_cons_of_mem _ (List.mem_append_right _ hp))
/-- what is small is whole in acc -/
def Whole (n : Nat) (acc : List Fm) : Prop := ∀ g ∈ acc, g.size ≤ n → ∀ p ∈ g.parts, p ∈ acc
theorem Whole.mono {m n : Nat} {acc : List Fm} (h : Whole n acc) (e : m ≤ n) : Whole m acc := fun g hg hs => h g hg (Nat.le_trans hs e)
theorem walk_sub : ∀ (f : Fm) (acc : List Fm), ∀ g ∈ acc, g ∈ walkP f acc
  | .sg i, acc, g, h => by
    rw [walkP]; split
    · exact h
    · exact List.mem_append_left _ h
  | .no k, acc, g, h => by
    rw [walkP]
    refine walk_sub k _ g ?_
    split
    · exact h
    · exact List.mem_append_left _ h
  | .bi w k l, acc, g, h => by
    rw [walkP]
    refine walk_sub l _ g (walk_sub k _ g ?_)
    split
    · exact h
    · exact List.mem_append_left _ h
theorem walk_has : ∀ (f : Fm) (acc : List Fm), ∀ p ∈ f.parts, p ∈ walkP f acc
  | .sg i, acc, p, h => by
    have e : p = .sg i := List.mem_singleton.mp h
    rw [e, walkP]; split
    · assumption
    · exact List.mem_append_right _ (List.mem_singleton.mpr rfl)
  | .no k, acc, p, h => by
    rw [walkP]
    rcases List.mem_cons.mp h with e | h
    · rw [e]
      refine walk_sub k _ _ ?_
      split
      · assumption
      · exact List.mem_append_right _ (List.mem_singleton.mpr rfl)
    · exact walk_has k _ p h
  | .bi w k l, acc, p, h => by
    rw [walkP]
    rcases List.mem_cons.mp h with e | h
    · rw [e]
      refine walk_sub l _ _ (walk_sub k _ _ ?_)
      split
      · assumption
      · exact List.mem_append_right _ (List.mem_singleton.mpr rfl)
    · rcases List.mem_append.mp h with h | h
      · exact walk_sub l _ _ (walk_has k _ p h)
      · exact walk_has l _ p h
/-- what is new in the walk is a part of f -/
theorem walk_new : ∀ (f : Fm) (acc : List Fm), ∀ g ∈ walkP f acc, g ∈ acc ∨ g ∈ f.parts
  | .sg i, acc, g, h => by
    rw [walkP] at h
    split at h
    · exact .inl h
    · exact (List.mem_append.mp h)
  | .no k, acc, g, h => by
    rw [walkP] at h
    rcases walk_new k _ g h with h | h
    · split at h
      · exact .inl h
      · rcases List.mem_append.mp h with h | h
        · exact .inl h
        · exact .inr (List.mem_singleton.mp h ▸ Fm.self_part _)
    · exact .inr (List.mem_cons_of_mem _ h)
  | .bi w k l, acc, g, h => by
    rw [walkP] at h
    rcases walk_new l _ g h with h | h
    · rcases walk_new k _ g h with h | h
      · split at h
        · exact .inl h
        · rcases List.mem_append.mp h with h | h
          · exact .inl h
          · exact .inr (List.mem_singleton.mp h ▸ Fm.self_part _)
      · exact .inr (List.mem_cons_of_mem _ (List.mem_append_left _ h))
    · exact .inr (List.mem_cons_of_mem _ (List.mem_append_right _ h))
theorem Fm.part_trans : ∀ {f p q : Fm}, p ∈ f.parts → q ∈ p.parts → q ∈ f.parts
  | .sg i, p, q, hp, hq => by
    have e : p = .sg i := List.mem_singleton.mp hp
    rw [e] at hq; exact hq
  | .no f, p, q, hp, hq => by
    rcases List.mem_cons.mp hp with e | hp
    · rw [e] at hq; exact hq
    · exact List.mem_cons_of_mem _ (Fm.part_trans hp hq)
  | .bi w f g, p, q, hp, hq => by
    rcases List.mem_cons.mp hp with e | hp
    · rw [e] at hq; exact hq
    · rcases List.mem_append.mp hp with hp | hp
      · exact List.mem_cons_of_mem _ (List.mem_append_left _ (Fm.part_trans hp hq))
      · exact List.mem_cons_of_mem _ (List.mem_append_right _ (Fm.part_trans hp hq))
/-- behind the walk of f what was whole is whole, and f's parts -/
theorem walk_whole {f : Fm} {acc : List Fm} {n : Nat} (h : Whole n acc) : Whole n (walkP f acc) := fun g hg hs p hp => by
  rcases walk_new f acc g hg with q | q
  · exact walk_sub f acc p (h g q hs p hp)
  · exact walk_has f acc p (Fm.part_trans q hp)
theorem whole_snoc {f : Fm} {acc : List Fm} {n : Nat} (h : Whole n acc) (hf : n < f.size) : Whole n (acc ++ [f]) := fun g hg hs p hp => by
  rcases List.mem_append.mp hg with q | q
  · exact List.mem_append_left _ (h g q hs p hp)
  · have e := List.mem_singleton.mp q
    subst e
    omega
theorem find_walk : ∀ (f : Fm) (acc : List Fm), Whole f.size acc → findP f acc = walkP f acc
  | .sg i, acc, h => by
    by_cases c : Fm.sg i ∈ acc
    · rw [findP_in c, walkP, if_pos c]
    · rw [findP_out c, walkP, if_neg c]; rfl
  | .no g, acc, h => by
    by_cases c : Fm.no g ∈ acc
    · rw [findP_in c, walkP_stay _ _ (h _ c (Nat.le_refl _))]
    · rw [findP_out c, walkP, if_neg c]
      show findP g (acc ++ [Fm.no g]) = _
      exact find_walk g _ (whole_snoc (h.mono (by show g.size ≤ g.size + 1; omega)) (by show g.size < g.size + 1; omega))
  | .bi w g k, acc, h => by
    by_cases c : Fm.bi w g k ∈ acc
    · rw [findP_in c, walkP_stay _ _ (h _ c (Nat.le_refl _))]
    · rw [findP_out c, walkP, if_neg c]
      show findP k (findP g (acc ++ [Fm.bi w g k])) = _
      have sz : (Fm.bi w g k).size = g.size + k.size + 1 := rfl
      have hp := Fm.size_pos g
      have hq := Fm.size_pos k
      have w1 : ∀ m, m ≤ g.size + k.size → Whole m (acc ++ [Fm.bi w g k]) := fun m hm => whole_snoc (h.mono (by omega)) (by omega)
      rw [find_walk g _ (w1 _ (by omega))]
      exact find_walk k _ (walk_whole (w1 _ (by omega)))
theorem whole_nil (n : Nat) : Whole n [] := fun _ h => nomatch h
theorem find_is_walk (f : Fm) : findP f [] = walkP f [] := find_walk f [] (whole_nil _)
theorem findP_len : ∀ (f : Fm) (acc : List Fm), (findP f acc).length ≤ acc.length + f.size
  | .sg i, acc => by
    rw [findP]; split
    · omega
    · rw [List.length_append]; exact Nat.le_refl _
  | .no g, acc => by
    rw [findP]; split
    · omega
    · have := findP_len g (acc ++ [.no g])
      rw [List.length_append] at this
      show _ ≤ acc.length + (g.size + 1)
      have e : [Fm.no g].length = 1 := rfl
      show (findP g (acc ++ [.no g])).length ≤ _
      omega
  | .bi w g k, acc => by
    rw [findP]; split
    · omega
    · have h1 := findP_len g (acc ++ [.bi w g k])
      have h2 := findP_len k (findP g (acc ++ [.bi w g k]))
      rw [List.length_append] at h1
      have e : [Fm.bi w g k].length = 1 := rfl
      show (findP k (findP g (acc ++ [.bi w g k]))).length ≤ acc.length + (g.size + k.size + 1)
      omega
theorem walkP_len : ∀ (f : Fm) (acc : List Fm), (walkP f acc).length ≤ acc.length + f.size
  | .sg i, acc => by
    rw [walkP]; split
    · omega
    · rw [List.length_append]; exact Nat.le_refl _
  | .no g, acc => by
    rw [walkP]
    have := walkP_len g (if Fm.no g ∈ acc then acc else acc ++ [.no g])
    have e : (if Fm.no g ∈ acc then acc else acc ++ [.no g]).length ≤ acc.length + 1 := by
      split
      · omega
      · rw [List.length_append]; exact Nat.le_refl _
    show _ ≤ acc.length + (g.size + 1)
    omega
  | .bi w g k, acc => by
    rw [walkP]
    have h1 := walkP_len g (if Fm.bi w g k ∈ acc then acc else acc ++ [.bi w g k])
    have h2 := walkP_len k (walkP g (if Fm.bi w g k ∈ acc then acc else acc ++ [.bi w g k]))
    have e : (if Fm.bi w g k ∈ acc then acc else acc ++ [.bi w g k]).length ≤ acc.length + 1 := by
      split
      · omega
      · rw [List.length_append]; exact Nat.le_refl _
    show _ ≤ acc.length + (g.size + k.size + 1)
    omega

/-! ### the texts -/
open PySem.Spec
open TL (tl tl_append tl_ofString ext_tl)
def isDig (c : Nat) : Bool := decide (48 ≤ c) && decide (c ≤ 57)
def digs (i : Int) : List Nat := (toString i).toList.map Char.toNat
def valD (l : List Nat) : Int := l.foldl (fun (a : Int) (c : Nat) => a * 10 + ((c : Int) - 48)) 0
/-- the text of a formula -/
def spS : Fm → Str
  | .sg i => (toString i : String)
  | .no f => ((((Str.empty ++ ("not" : Str)) ++ ("(" : Str)) ++ Txt.join ("," : Str) [spS f]) ++ (")" : Str))
  | .bi w f g => ((((Str.empty ++ w.txt) ++ ("(" : Str)) ++ Txt.join ("," : Str) [spS f, spS g]) ++ (")" : Str))
/-- its codes -/
def sp : Fm → List Nat
  | .sg i => digs i
  | .no f => tl ("not" : Str) ++ (40 :: (sp f ++ [41]))
  | .bi w f g => tl w.txt ++ (40 :: (sp f ++ (44 :: (sp g ++ [41]))))
theorem tl_empty : tl Str.empty = [] := rfl
theorem tl_open : tl ("(" : Str) = [40] := by decide +kernel
theorem tl_close : tl (")" : Str) = [41] := by decide +kernel
theorem tl_comma : tl ("," : Str) = [44] := by decide +kernel
theorem spS_tl : ∀ f : Fm, tl (spS f) = sp f
  | .sg i => tl_ofString (toString i)
  | .no f => by
    have h := spS_tl f
    have e : Txt.join ("," : Str) [spS f] = spS f := by rw [TL.join_eq]; rfl
    show tl ((((Str.empty ++ ("not" : Str)) ++ ("(" : Str)) ++ Txt.join ("," : Str) [spS f]) ++ (")" : Str)) = tl ("not" : Str) ++ (40 :: (sp f ++ [41]))
    rw [e, tl_append, tl_append, tl_append, tl_append, tl_empty, tl_open, tl_close, h]
    simp only [List.nil_append, List.append_assoc, List.cons_append]
  | .bi w f g => by
    have h := spS_tl f
    have h2 := spS_tl g
    have e : Txt.join ("," : Str) [spS f, spS g] = (spS f ++ ("," : Str)) ++ spS g := by rw [TL.join_eq]; rfl
    show tl ((((Str.empty ++ w.txt) ++ ("(" : Str)) ++ Txt.join ("," : Str) [spS f, spS g]) ++ (")" : Str)) = tl w.txt ++ (40 :: (sp f ++ (44 :: (sp g ++ [41]))))
    rw [e, tl_append, tl_append, tl_append, tl_append, tl_append, tl_append, tl_empty, tl_open, tl_close, tl_comma, h, h2]
    simp only [List.nil_append, List.append_assoc, List.cons_append]
theorem digs_all : ∀ n : Fin 100, ((digs ((n.val : Nat) : Int)).all isDig && !(digs ((n.val : Nat) : Int)).isEmpty && decide (valD (digs ((n.val : Nat) : Int)) = ((n.val : Nat) : Int)) && decide ((digs ((n.val : Nat) : Int)).length ≤ 2)) = true := by decide +kernel
theorem digs_of {i : Int} (h : 0 ≤ i ∧ i ≤ 99) : (digs i).all isDig = true ∧ (digs i) ≠ [] ∧ valD (digs i) = i ∧ (digs i).length ≤ 2 := by
  obtain ⟨n, rfl⟩ := Int.eq_ofNat_of_zero_le h.1
  have q := digs_all ⟨n, by omega⟩
  simp only [Bool.and_eq_true, decide_eq_true_eq] at q
  obtain ⟨⟨⟨q1, q2⟩, q3⟩, q4⟩ := q
  refine ⟨q1, fun z => ?_, q3, q4⟩
  have z' : digs ((n : Nat) : Int) = [] := z
  rw [z'] at q2
  exact absurd q2 (by decide)
/-- no digit ahead -/
def Nd (r : List Nat) : Prop := r.takeWhile isDig = []
theorem nd_cons {c : Nat} (h : isDig c = false) (r : List Nat) : Nd (c :: r) := by
  unfold Nd
  rw [List.takeWhile_cons, h]
  rfl
theorem take_dig : ∀ {l r : List Nat}, l.all isDig = true → Nd r → (l ++ r).takeWhile isDig = l
  | [], r, _, h => h
  | c :: l, r, h, hr => by
    rw [List.all_cons, Bool.and_eq_true] at h
    rw [List.cons_append, List.takeWhile_cons, h.1, if_pos rfl, take_dig h.2 hr]
theorem head_txt (w : Bw) : ∃ c r, tl w.txt = c :: r ∧ isDig c = false ∧ c ≠ 110 ∧ c = (match w with | .an => 97 | .o => 111 | .th => 116) := by
  cases w
  · exact ⟨97, [110, 100], by decide +kernel, by decide, by decide, rfl⟩
  · exact ⟨111, [114], by decide +kernel, by decide, by decide, rfl⟩
  · exact ⟨116, [104, 101, 110], by decide +kernel, by decide, by decide, rfl⟩
theorem tl_not : tl ("not" : Str) = [110, 111, 116] := by decide +kernel
theorem dig_head {i : Int} (h : 0 ≤ i ∧ i ≤ 99) : ∃ c r, digs i = c :: r ∧ isDig c = true := by
  obtain ⟨h1, h2, _, _⟩ := digs_of h
  cases e : digs i with
  | nil => exact absurd e h2
  | cons c r =>
    rw [e, List.all_cons, Bool.and_eq_true] at h1
    exact ⟨c, r, rfl, h1.1⟩
theorem sp_split : ∀ (f g : Fm) (r r' : List Nat), f.good → g.good → Nd r → Nd r' → sp f ++ r = sp g ++ r' → f = g ∧ r = r'
  | .sg i, .sg j, r, r', hf, hg, hr, hr', e => by
    obtain ⟨a1, _, a3, _⟩ := digs_of hf
    obtain ⟨b1, _, b3, _⟩ := digs_of hg
    have t := congrArg (List.takeWhile isDig) e
    rw [show sp (.sg i) = digs i from rfl, show sp (.sg j) = digs j from rfl, take_dig a1 hr, take_dig b1 hr'] at t
    have ij : i = j := by rw [← a3, ← b3, t]
    subst ij
    exact ⟨rfl, List.append_cancel_left e⟩
  | .no f, .no g, r, r', hf, hg, hr, hr', e => by
    have e1 : tl ("not" : Str) ++ (40 :: (sp f ++ [41])) ++ r = tl ("not" : Str) ++ (40 :: (sp g ++ [41])) ++ r' := e
    simp only [List.append_assoc, List.cons_append] at e1
    have e2 := List.append_cancel_left e1
    have e3 := (List.cons.inj e2).2
    obtain ⟨q1, q2⟩ := sp_split f g _ _ hf hg (nd_cons (by decide) _) (nd_cons (by decide) _) e3
    subst q1
    exact ⟨rfl, by simpa using q2⟩
  | .bi w f g, .bi v f' g', r, r', hf, hg, hr, hr', e => by
    have e1 : tl w.txt ++ (40 :: (sp f ++ (44 :: (sp g ++ [41])))) ++ r = tl v.txt ++ (40 :: (sp f' ++ (44 :: (sp g' ++ [41])))) ++ r' := e
    have hw : w = v := by
      obtain ⟨c, x, h1, _, _, h4⟩ := head_txt w
      obtain ⟨d, y, k1, _, _, k4⟩ := head_txt v
      rw [h1, k1] at e1
      have z := (List.cons.inj e1).1
      rw [h4, k4] at z
      cases w <;> cases v <;> first | rfl | exact absurd z (by decide)
    subst hw
    simp only [List.append_assoc, List.cons_append] at e1
    have e3 := (List.cons.inj (List.append_cancel_left e1)).2
    obtain ⟨q1, q2⟩ := sp_split f f' _ _ hf.1 hg.1 (nd_cons (by decide) _) (nd_cons (by decide) _) e3
    subst q1
    have e4 := (List.cons.inj q2).2
    obtain ⟨p1, p2⟩ := sp_split g g' _ _ hf.2 hg.2 (nd_cons (by decide) _) (nd_cons (by decide) _) e4
    subst p1
    exact ⟨rfl, by simpa using p2⟩
  | .sg i, .no g, r, r', hf, hg, hr, hr', e => by
    obtain ⟨c, x, h1, h2⟩ := dig_head hf
    rw [show sp (.sg i) = digs i from rfl, show sp (.no g) = tl ("not" : Str) ++ (40 :: (sp g ++ [41])) from rfl, h1, tl_not] at e
    have z := (List.cons.inj e).1
    rw [z] at h2
    exact absurd h2 (by decide)
  | .no g, .sg i, r, r', hg, hf, hr, hr', e => by
    obtain ⟨c, x, h1, h2⟩ := dig_head hf
    rw [show sp (.sg i) = digs i from rfl, show sp (.no g) = tl ("not" : Str) ++ (40 :: (sp g ++ [41])) from rfl, h1, tl_not] at e
    have z := (List.cons.inj e).1
    rw [← z] at h2
    exact absurd h2 (by decide)
  | .sg i, .bi w f g, r, r', hf, hg, hr, hr', e => by
    obtain ⟨c, x, h1, h2⟩ := dig_head hf
    obtain ⟨d, y, k1, k2, _, _⟩ := head_txt w
    rw [show sp (.sg i) = digs i from rfl, show sp (.bi w f g) = tl w.txt ++ (40 :: (sp f ++ (44 :: (sp g ++ [41])))) from rfl, h1, k1] at e
    have z := (List.cons.inj e).1
    rw [z, k2] at h2
    cases h2
  | .bi w f g, .sg i, r, r', hg, hf, hr, hr', e => by
    obtain ⟨c, x, h1, h2⟩ := dig_head hf
    obtain ⟨d, y, k1, k2, _, _⟩ := head_txt w
    rw [show sp (.sg i) = digs i from rfl, show sp (.bi w f g) = tl w.txt ++ (40 :: (sp f ++ (44 :: (sp g ++ [41])))) from rfl, h1, k1] at e
    have z := (List.cons.inj e).1
    rw [← z, k2] at h2
    cases h2
  | .no f', .bi w f g, r, r', hf, hg, hr, hr', e => by
    obtain ⟨d, y, k1, _, k3, _⟩ := head_txt w
    rw [show sp (.no f') = tl ("not" : Str) ++ (40 :: (sp f' ++ [41])) from rfl, show sp (.bi w f g) = tl w.txt ++ (40 :: (sp f ++ (44 :: (sp g ++ [41])))) from rfl, tl_not, k1] at e
    exact absurd (List.cons.inj e).1.symm k3
  | .bi w f g, .no f', r, r', hf, hg, hr, hr', e => by
    obtain ⟨d, y, k1, _, k3, _⟩ := head_txt w
    rw [show sp (.no f') = tl ("not" : Str) ++ (40 :: (sp f' ++ [41])) from rfl, show sp (.bi w f g) = tl w.txt ++ (40 :: (sp f ++ (44 :: (sp g ++ [41])))) from rfl, tl_not, k1] at e
    exact absurd (List.cons.inj e).1 k3
theorem spS_inj {f g : Fm} (hf : f.good) (hg : g.good) (e : spS f = spS g) : f = g := by
  have e1 : sp f ++ [] = sp g ++ [] := by rw [← spS_tl, ← spS_tl, e]
  exact (sp_split f g [] [] hf hg rfl rfl e1).1
theorem txt_len (w : Bw) : (tl w.txt).length ≤ 4 := by cases w <;> decide +kernel
theorem sp_len : ∀ {f : Fm}, f.good → (sp f).length + 7 ≤ 9 * 2 ^ (f.dep - 1)
  | .sg i, h => by
    have q := (digs_of h).2.2.2
    show (digs i).length + 7 ≤ 9 * 2 ^ (1 - 1)
    simp only [Nat.sub_self, Nat.pow_zero]
    omega
  | .no f, h => by
    have q := sp_len (f := f) h
    have hp := Fm.dep_pos f
    have e : f.dep + 1 - 1 = (f.dep - 1) + 1 := by omega
    show (tl ("not" : Str) ++ (40 :: (sp f ++ [41]))).length + 7 ≤ 9 * 2 ^ (f.dep + 1 - 1)
    rw [e, Nat.pow_succ, tl_not]
    simp only [List.length_append, List.length_cons, List.length_nil]
    have pos : 1 ≤ 2 ^ (f.dep - 1) := Nat.one_le_two_pow
    omega
  | .bi w f g, h => by
    have q1 := sp_len (f := f) h.1
    have q2 := sp_len (f := g) h.2
    have hp := Fm.dep_pos f
    have hq := Fm.dep_pos g
    have m1 : 2 ^ (f.dep - 1) ≤ 2 ^ (max f.dep g.dep - 1) := Nat.pow_le_pow_right (by decide) (by omega)
    have m2 : 2 ^ (g.dep - 1) ≤ 2 ^ (max f.dep g.dep - 1) := Nat.pow_le_pow_right (by decide) (by omega)
    have e : max f.dep g.dep + 1 - 1 = (max f.dep g.dep - 1) + 1 := by omega
    have t := txt_len w
    show (tl w.txt ++ (40 :: (sp f ++ (44 :: (sp g ++ [41]))))).length + 7 ≤ 9 * 2 ^ (max f.dep g.dep + 1 - 1)
    rw [e, Nat.pow_succ]
    simp only [List.length_append, List.length_cons, List.length_nil]
    omega
theorem spS_len {f : Fm} (h : f.good) (hd : f.dep ≤ 12) : (spS f).length ≤ 18500 := by
  have q := sp_len h
  have m : 2 ^ (f.dep - 1) ≤ 2 ^ 11 := Nat.pow_le_pow_right (by decide) (by omega)
  rw [TL.len_tl, spS_tl]
  have e : (2 : Nat) ^ 11 = 2048 := by decide
  omega
end Lm
set_option Elab.async false
set_option linter.all false
set_option maxRecDepth 100000
set_option maxHeartbeats 2000000
/-! formulas in the heap, rules that lacked, promises of the program's defs -/
namespace Lm
open PySem PySem.Spec PyProof.Rows L2

/-! ### heaps -/
theorem sqT_same {K : PySem.W.Frag} {H H' : Hp} {a : Addr} {xs : List V} (e : Same H H') (h : SqT K H a xs) : SqT K H' a xs := by
  rcases h with (h | ⟨o, h⟩) | h
  · exact .inl (.inl (e _ _ h))
  · exact .inl (.inr ⟨o, e _ _ h⟩)
  · exact .inr h
theorem same_new {H : Hp} {p : Addr} (h : H p = none) (o : HO) : Same H (upd H p o) := fun b u q => by rw [upd_ne (ne_of_none q h)]; exact q
theorem same_upd {H1 H : Hp} {D : Addr} {o : HO} (e : Same H1 H) (n : H1 D = none) : Same H1 (upd H D o) := fun b u q => by
  rw [upd_ne (ne_of_none q n)]
  exact e b u q
/-- all but what stands at a is as it was -/
def But (a : Addr) (H H' : Hp) : Prop := ∀ b o, H b = some o → b ≠ a → H' b = some o
theorem But.refl (a : Addr) (H : Hp) : But a H H := fun _ _ h _ => h
theorem But.trans {a : Addr} {H H1 H2 : Hp} (x : But a H H1) (y : But a H1 H2) : But a H H2 := fun b o h n => y b o (x b o h n) n
theorem Same.but {H H' : Hp} (e : Same H H') (a : Addr) : But a H H' := fun b o h _ => e b o h
theorem But.upd (a : Addr) (H : Hp) (o : HO) : But a H (upd H a o) := fun b u h n => by rw [upd_ne n]; exact h
/-- the tuples stand -/
def Tk (K : PySem.W.Frag) (H H' : Hp) : Prop := ∀ b xs, SqT K H b xs → SqT K H' b xs
theorem Tk.of_same {K : PySem.W.Frag} {H H' : Hp} (e : Same H H') : Tk K H H' := fun _ _ h => sqT_same e h
theorem Tk.of_but {K : PySem.W.Frag} {H H' : Hp} {a : Addr} (e : But a H H') (h : (∃ xs, H a = some (.lst xs)) ∨ (∃ kvs, H a = some (.dK kvs)) ∨ H a = none) : Tk K H H' := fun b xs q => by
  have nt : ∀ ys, H a ≠ some (.tup ys) := fun ys z => by
    rcases h with ⟨x, h⟩ | ⟨x, h⟩ | h <;> (rw [h] at z; cases z)
  have nf : ∀ o ys, H a ≠ some (.frz o (.tup ys)) := fun o ys z => by
    rcases h with ⟨x, h⟩ | ⟨x, h⟩ | h <;> (rw [h] at z; cases z)
  rcases q with (q | ⟨o, q⟩) | q
  · exact .inl (.inl (e _ _ q fun z => nt xs (z ▸ q)))
  · exact .inl (.inr ⟨o, e _ _ q fun z => nf o xs (z ▸ q)⟩)
  · exact .inr q

/-! ### data in the heap -/
mutual
theorem dp_same {K : PySem.W.Frag} {H H' : Hp} (e : Same H H') : ∀ (d : PyData) (v : V), Dp K H v d → Dp K H' v d
  | .none, _, h => by cases h; exact .non
  | .bool b, _, h => by cases h; exact .bl b
  | .int i, _, h => by cases h; exact .int i
  | .str x, _, h => by cases h; exact .str x
  | .list ds, _, h => by
    cases h with
    | lst hs ha => exact .lst (e.seq hs) (dpAll_same e ds _ ha)
  | .tuple ds, _, h => by
    cases h with
    | tup hs ha => exact .tup (sqT_same e hs) (dpAll_same e ds _ ha)
  | .dict _, _, h => by cases h
theorem dpAll_same {K : PySem.W.Frag} {H H' : Hp} (e : Same H H') : ∀ (ds : List PyData) (vs : List V), DpAll K H vs ds → DpAll K H' vs ds
  | [], _, h => by cases h; exact .nil
  | d :: ds, _, h => by
    cases h with
    | cons h1 h2 => exact .cons (dp_same e d _ h1) (dpAll_same e ds _ h2)
end
theorem dpAll_len {K : PySem.W.Frag} {H : Hp} : ∀ {ds : List PyData} {vs : List V}, DpAll K H vs ds → vs.length = ds.length
  | [], _, h => by cases h; rfl
  | d :: ds, _, h => by
    cases h with
    | cons h1 h2 => rw [List.length_cons, List.length_cons, dpAll_len h2]
theorem dpAll_get {K : PySem.W.Frag} {H : Hp} : ∀ {ds : List PyData} {vs : List V} {i : Nat} {v : V}, DpAll K H vs ds → vs[i]? = some v → ∃ d, ds[i]? = some d ∧ Dp K H v d
  | [], _, i, v, h, e => by cases h; cases e
  | d :: ds, _, 0, v, h, e => by
    cases h with
    | cons h1 h2 => exact ⟨d, rfl, (Option.some.inj e) ▸ h1⟩
  | d :: ds, _, i + 1, v, h, e => by
    cases h with
    | cons h1 h2 => exact dpAll_get (i := i) h2 e
theorem dpAll_app {K : PySem.W.Frag} {H : Hp} : ∀ {ds es : List PyData} {vs ws : List V}, DpAll K H vs ds → DpAll K H ws es → DpAll K H (vs ++ ws) (ds ++ es)
  | [], _, _, _, h, k => by cases h; exact k
  | d :: ds, es, _, ws, h, k => by
    cases h with
    | cons h1 h2 => exact .cons h1 (dpAll_app h2 k)
theorem dpAll_ints {K : PySem.W.Frag} {H : Hp} : ∀ ns : List Int, DpAll K H (ns.map V.int) (ns.map PyData.int)
  | [] => .nil
  | n :: ns => .cons (.int n) (dpAll_ints ns)
/-! formulas -/
section
variable {K : PySem.W.Frag} {H H' : Hp} {v : V}
theorem dp_sg {i : Int} (h : Dp K H v (Fm.sg i).toD) : ∃ a, v = .ref a ∧ SqT K H a [.str ("sign" : Str), .int i] := by
  have h : Dp K H v (.tuple [.str ("sign" : Str), .int i]) := h
  cases h with
  | tup hs ha =>
    cases ha with
    | cons h1 h2 =>
      cases h1
      cases h2 with
      | cons h3 h4 =>
        cases h3
        cases h4
        exact ⟨_, rfl, hs⟩
theorem dp_no {f : Fm} (h : Dp K H v (Fm.no f).toD) : ∃ a x, v = .ref a ∧ SqT K H a [.str ("not" : Str), x] ∧ Dp K H x f.toD := by
  have h : Dp K H v (.tuple [.str ("not" : Str), f.toD]) := h
  cases h with
  | tup hs ha =>
    cases ha with
    | cons h1 h2 =>
      cases h1
      cases h2 with
      | cons h3 h4 =>
        cases h4
        exact ⟨_, _, rfl, hs, h3⟩
theorem dp_bi {w : Bw} {f g : Fm} (h : Dp K H v (Fm.bi w f g).toD) : ∃ a x y, v = .ref a ∧ SqT K H a [.str w.txt, x, y] ∧ Dp K H x f.toD ∧ Dp K H y g.toD := by
  have h : Dp K H v (.tuple [.str w.txt, f.toD, g.toD]) := h
  cases h with
  | tup hs ha =>
    cases ha with
    | cons h1 h2 =>
      cases h1
      cases h2 with
      | cons h3 h4 =>
        cases h4 with
        | cons h5 h6 =>
          cases h6
          exact ⟨_, _, _, rfl, hs, h3, h5⟩
theorem mk_sg {a : Addr} {i : Int} (h : SqT K H a [.str ("sign" : Str), .int i]) : Dp K H (.ref a) (Fm.sg i).toD := .tup h (.cons (.str _) (.cons (.int _) .nil))
theorem mk_no {a : Addr} {x : V} {f : Fm} (h : SqT K H a [.str ("not" : Str), x]) (hx : Dp K H x f.toD) : Dp K H (.ref a) (Fm.no f).toD := .tup h (.cons (.str _) (.cons hx .nil))
theorem mk_bi {a : Addr} {w : Bw} {x y : V} {f g : Fm} (h : SqT K H a [.str w.txt, x, y]) (hx : Dp K H x f.toD) (hy : Dp K H y g.toD) : Dp K H (.ref a) (Fm.bi w f g).toD := .tup h (.cons (.str _) (.cons hx (.cons hy .nil)))
/-- a formula stands while the tuples stand -/
theorem fm_keep (t : Tk K H H') : ∀ (f : Fm) (v : V), Dp K H v f.toD → Dp K H' v f.toD
  | .sg i, v, h => by
    obtain ⟨a, rfl, hs⟩ := dp_sg h
    exact mk_sg (t _ _ hs)
  | .no f, v, h => by
    obtain ⟨a, x, rfl, hs, hx⟩ := dp_no h
    exact mk_no (t _ _ hs) (fm_keep t f x hx)
  | .bi w f g, v, h => by
    obtain ⟨a, x, y, rfl, hs, hx, hy⟩ := dp_bi h
    exact mk_bi (t _ _ hs) (fm_keep t f x hx) (fm_keep t g y hy)
theorem fms_keep (t : Tk K H H') : ∀ (fs : List Fm) (vs : List V), DpAll K H vs (fs.map Fm.toD) → DpAll K H' vs (fs.map Fm.toD)
  | [], _, h => by cases h; exact .nil
  | f :: fs, _, h => by
    have h : DpAll K H _ (f.toD :: fs.map Fm.toD) := h
    cases h with
    | cons h1 h2 => exact .cons (fm_keep t f _ h1) (fms_keep t fs _ h2)
end

/-! ### what a thing is -/
def tyD : PyData → String
  | .none => "NoneType"
  | .bool _ => "bool"
  | .int _ => "int"
  | .str _ => "str"
  | .list _ => "list"
  | .tuple _ => "tuple"
  | .dict _ => "dict"
theorem tyx_of {K : PySem.W.Frag} {H : Hp} {v : V} {d : PyData} (h : Dp K H v d) : TyX K H v (.type (tyD d)) := by
  cases h with
  | non => exact .base .non
  | bl b => exact .base (.bl b)
  | int i => exact .base (.int i)
  | str x => exact .base (.str x)
  | lst hs _ =>
    rcases hs with (hs | ⟨o, hs⟩) | ⟨o, its, n, hk, hc, _⟩
    · exact .base (.lst hs)
    · exact .base (.frz hs)
    · exact .kList hk hc
  | tup hs _ =>
    rcases hs with (hs | ⟨o, hs⟩) | ⟨o, its, n, hk, hc, _⟩
    · exact .base (.tup hs)
    · exact .fTuple hs
    · exact .kTuple hk hc
def isIB : PyData → Bool
  | .int _ => true
  | .bool _ => true
  | _ => false
def isBl : PyData → Bool
  | .bool _ => true
  | _ => false
def isSt : PyData → Bool
  | .str _ => true
  | _ => false
def isTu : PyData → Bool
  | .tuple _ => true
  | _ => false
def isLi : PyData → Bool
  | .list _ => true
  | _ => false
theorem kit_int {K : PySem.W.Frag} {H : Hp} {v : V} {d : PyData} (h : Dp K H v d) : PySem.W.kitOne K (.type (tyD d)) (.type "int") = some (isIB d) := by
  cases h with
  | non => exact kit_ty (show kitB "NoneType" "int" = some false from by decide +kernel)
  | bl b => exact kit_ty (show kitB "bool" "int" = some true from by decide +kernel)
  | int i => exact kit_ty (show kitB "int" "int" = some true from by decide +kernel)
  | str x => exact kit_ty (show kitB "str" "int" = some false from by decide +kernel)
  | lst _ _ => exact kit_ty (show kitB "list" "int" = some false from by decide +kernel)
  | tup _ _ => exact kit_ty (show kitB "tuple" "int" = some false from by decide +kernel)
theorem kit_bool {K : PySem.W.Frag} {H : Hp} {v : V} {d : PyData} (h : Dp K H v d) : PySem.W.kitOne K (.type (tyD d)) (.type "bool") = some (isBl d) := by
  cases h with
  | non => exact kit_ty (show kitB "NoneType" "bool" = some false from by decide +kernel)
  | bl b => exact kit_ty (show kitB "bool" "bool" = some true from by decide +kernel)
  | int i => exact kit_ty (show kitB "int" "bool" = some false from by decide +kernel)
  | str x => exact kit_ty (show kitB "str" "bool" = some false from by decide +kernel)
  | lst _ _ => exact kit_ty (show kitB "list" "bool" = some false from by decide +kernel)
  | tup _ _ => exact kit_ty (show kitB "tuple" "bool" = some false from by decide +kernel)
theorem kit_str {K : PySem.W.Frag} {H : Hp} {v : V} {d : PyData} (h : Dp K H v d) : PySem.W.kitOne K (.type (tyD d)) (.type "str") = some (isSt d) := by
  cases h with
  | non => exact kit_ty (show kitB "NoneType" "str" = some false from by decide +kernel)
  | bl b => exact kit_ty (show kitB "bool" "str" = some false from by decide +kernel)
  | int i => exact kit_ty (show kitB "int" "str" = some false from by decide +kernel)
  | str x => exact kit_ty (show kitB "str" "str" = some true from by decide +kernel)
  | lst _ _ => exact kit_ty (show kitB "list" "str" = some false from by decide +kernel)
  | tup _ _ => exact kit_ty (show kitB "tuple" "str" = some false from by decide +kernel)
theorem kit_tuple {K : PySem.W.Frag} {H : Hp} {v : V} {d : PyData} (h : Dp K H v d) : PySem.W.kitOne K (.type (tyD d)) (.type "tuple") = some (isTu d) := by
  cases h with
  | non => exact kit_ty (show kitB "NoneType" "tuple" = some false from by decide +kernel)
  | bl b => exact kit_ty (show kitB "bool" "tuple" = some false from by decide +kernel)
  | int i => exact kit_ty (show kitB "int" "tuple" = some false from by decide +kernel)
  | str x => exact kit_ty (show kitB "str" "tuple" = some false from by decide +kernel)
  | lst _ _ => exact kit_ty (show kitB "list" "tuple" = some false from by decide +kernel)
  | tup _ _ => exact kit_ty (show kitB "tuple" "tuple" = some true from by decide +kernel)
theorem kit_list {K : PySem.W.Frag} {H : Hp} {v : V} {d : PyData} (h : Dp K H v d) : PySem.W.kitOne K (.type (tyD d)) (.type "list") = some (isLi d) := by
  cases h with
  | non => exact kit_ty (show kitB "NoneType" "list" = some false from by decide +kernel)
  | bl b => exact kit_ty (show kitB "bool" "list" = some false from by decide +kernel)
  | int i => exact kit_ty (show kitB "int" "list" = some false from by decide +kernel)
  | str x => exact kit_ty (show kitB "str" "list" = some false from by decide +kernel)
  | lst _ _ => exact kit_ty (show kitB "list" "list" = some true from by decide +kernel)
  | tup _ _ => exact kit_ty (show kitB "tuple" "list" = some false from by decide +kernel)

/-! ### rules that lacked -/
/-- list(d.values()) -/
def tListVals (te : TE) : TE := fun σ H Q => te σ H fun x H1 => ∃ (d : Addr) (kvs : List (Key × V)), x = .ref d ∧ H1 d = some (.dK kvs) ∧ ∀ p, H1 p = none → Q (.ref p) (upd H1 p (.lst (kvs.map (·.2))))
theorem kv_vals : ∀ {kvs : List (Key × V)} {vs : List (Key × Value)}, KV kvs vs → Vals (kvs.map (·.2)) (vs.map (·.2))
  | _, _, .nil => .nil
  | _, _, .cons h t => .cons h.2 (kv_vals t)
section
variable {X : Cx} {e : Expr} {te : TE} {p apos cpos pos : Pos}
theorem pe_listVals (hc : X.calm = true) (he : PE X e te) (hg : Gl X "list") (hm : X.mg "list" = none) (hv : bootBuiltins "list" = some (.type "list")) (hbase : attributeBase e "values" X.env (eval e X.env) = eval e X.env := by rfl) (hline : (apos.endLine == cpos.line) = true := by rfl)
    (hs : starEach [.Call (.Attribute e "values" apos) [] [] cpos] X.env = (false, eval (.Call (.Attribute e "values" apos) [] [] cpos) X.env) :: starEach [] X.env := by rfl) :
    PE X (.Call (.Name "list" p) [.Call (.Attribute e "values" apos) [] [] cpos] [] pos) (tListVals te) := by
  refine ⟨fun pins s σ H Q I hq => ?_⟩
  refine wpAny_Call_Name_kw (ld_blt I hg hm hv ?_)
  refine PyProof.Rows.callWith_type1 ?_ hs rfl
  rw [hs]
  show wpAny _ _ (spliced ((false, eval (.Call (.Attribute e "values" apos) [] [] cpos) X.env) :: backTo pos (starEach [] X.env))) _ _ s
  refine Calls.spliced_cons ?_
  refine wpAny_Call_method (T := "dict") (id := "dict.values") hbase rfl hline F.plainAttrs_dict F.slot_dict_values F.type_dict_values (thn (he.run pins s σ H _ I hq) fun u s1 ⟨x, H1, I1, rx, d, kvs, ex, hd, q⟩ => ?_)
  subst ex
  obtain rfl : u = Value.ref d := rx
  obtain ⟨hz, hs0, vs, kv, hdo⟩ := I1.hok d _ hd
  obtain ⟨ep, hat⟩ := hdo.dictAt
  have lk : kvs.length = vs.length := Paired.length kv
  have I2 : Inv X pins σ H1 { s1 with heap := s1.heap.push { cls := .type "dict_values", data := .fields #[.ref d] } } := I1.kept (t' := s1.toks) fun b ob q => Heap.get?_push_of_some _ q
  refine ⟨hdo.typeIs, hdo.mapOf.noDict, ?_⟩
  show wpAny _ _ (callWith cpos (.builtin "dict.values") [.ref d] [] []) _ X.xe s1
  refine method_meetsIn F.slot_dict_values F.entry_dict_values rfl (PySem.evalArgs_none ⟨rfl, hdo.typeIs, F.args_dict_values_1 _, _, meets_dict_values (mixKind X.prog X.w) d hs0, ⟨vs, hdo⟩, ?_⟩)
  refine Calls.spliced_nil ?_
  refine PySem.W.kdl_call (PySem.W.kdl_values (knd := mixKind X.prog X.w) (kvs := vs) (ep := ep) (d := d)) (I1.ok.hd hc) ⟨⟨_, Heap.get?_push_size _ rfl, rfl, rfl⟩, hat.push _⟩ (by omega) fun h' tk acc c hk hS hacc => ?_
  have e0 : acc.toList = vs.map (·.2) := PySem.W.kdl_vals_eq acc.toList (by rw [Array.length_toList]; exact hacc.1) fun j v ev => hacc.2 j v (by rw [← Array.getElem?_toList]; exact ev)
  have ob : ObjOk X.prog X.w (upd H1 (s1.heap.push { cls := .type "dict_values", data := .fields #[.ref d] }).objs.size (.lst (kvs.map (·.2)))) h' (s1.heap.push { cls := .type "dict_values", data := .fields #[.ref d] }).objs.size (.lst (kvs.map (·.2))) := by
    refine ⟨by rw [List.length_map]; omega, acc.toList, c, by rw [e0]; exact kv_vals kv, ?_⟩
    rw [Array.toArray_toList]
    exact hS
  exact ⟨.ref _, _, I2.laid (t' := tk) hk (Nat.le_refl _) ob, rfl, q _ (I2.hok.fresh (Nat.le_refl _))⟩
end
/-- a dict comprehension over a list that stays -/
theorem dc_list {K : PySem.W.Frag} {a : Addr} {xs : List V} {g : TG} {tt : TT} {tk tv : TE} {vs : List Nat} {σ : L2.St} {H1 : Hp} {D : Addr} {Qd : Hp → Prop} (Pv : Nat → Hp → Prop) (h0 : Pv 0 (upd H1 D (.dK []))) (hl : ∀ i H, i ≤ xs.length → Pv i H → SqL K H a xs)
    (hs : ∀ i x H, xs[i]? = some x → Pv i H → g x (wipe σ vs) H fun σ2 H2 => wipe σ2 vs = wipe σ vs ∧ tt σ2 H2 fun b H3 =>
      if b = true then tk σ2 H3 fun y H4 => tv σ2 H4 fun z H5 => ∃ kvs k, y = kV k ∧ H5 D = some (.dK kvs) ∧ kvs.length < sizeLine ∧ Pv (i + 1) (upd H5 D (.dK (putK kvs k z))) else Pv (i + 1) H3) (hd : ∀ H, Pv xs.length H → Qd H) :
    ∃ W : Nat → Nat → Hp → Prop, (∃ m, W 0 m (upd H1 D (.dK []))) ∧ ∀ i m H, W i m H →
      ((Itl K a).stop i H ∧ Qd H) ∨ ((Itl K a).go i H ∧ ∃ Nx : Hp → Prop, (∀ H', Nx H' → ∃ m', m' < m ∧ W (i + 1) m' H') ∧ ∀ x H', (Itl K a).yld i H x H' → g x (wipe σ vs) H' fun σ2 H2 => wipe σ2 vs = wipe σ vs ∧ tt σ2 H2 fun b H3 =>
        if b = true then tk σ2 H3 fun y H4 => tv σ2 H4 fun z H5 => ∃ kvs k, y = kV k ∧ H5 D = some (.dK kvs) ∧ kvs.length < sizeLine ∧ Nx (upd H5 D (.dK (putK kvs k z))) else Nx H3) := by
  refine ⟨fun i m H => m = xs.length - i ∧ i ≤ xs.length ∧ Pv i H, ⟨xs.length, by simp, Nat.zero_le _, h0⟩, ?_⟩
  rintro i m H ⟨rfl, hi, p⟩
  have q := hl i H hi p
  by_cases hlt : i < xs.length
  · refine .inr ⟨⟨xs, xs[i], q, by simp [hlt]⟩, Pv (i + 1), fun H' p' => ⟨xs.length - (i + 1), by omega, rfl, hlt, p'⟩, fun x H' y => ?_⟩
    obtain ⟨e, y⟩ := y
    subst e
    exact hs i x _ (y xs q) p
  · have e : i = xs.length := by omega
    subst e
    exact .inl ⟨⟨xs, q, Nat.le_refl _⟩, hd H p⟩
theorem wipe1 (σ : L2.St) (j : Nat) (x : Option V) : wipe ((wipe σ [j]).set j x) [j] = wipe σ [j] := by
  show (((σ.set j none).set j x).set j none) = σ.set j none
  rw [List.set_set, List.set_set]
/-- [e for x in t], t a tuple, where each item gives its value and nothing that stood is changed -/
theorem lc_map_tup {K : PySem.W.Frag} {a : Addr} {xs ys : List V} {te : TE} {j : Nat} {σ : L2.St} {H1 : Hp} {D : Addr} {Qd : Hp → Prop} (hx : SqT K H1 a xs) (hD : H1 D = none) (hl : ys.length = xs.length) (hz : ys.length ≤ sizeLine)
    (el : ∀ (i : Nat) (x y : V) (H' : Hp), xs[i]? = some x → ys[i]? = some y → Same H1 H' → ∀ Q : VK, (∀ H'', Same H' H'' → Q y H'') → te ((wipe σ [j]).set j (some x)) H' Q)
    (hd : ∀ H', Same H1 H' → H' D = some (.lst ys) → Qd H') :
    ∃ W : Nat → Nat → Hp → Prop, (∃ m, W 0 m (upd H1 D (.lst []))) ∧ ∀ i m H, W i m H →
      ((Itt K a).stop i H ∧ Qd H) ∨ ((Itt K a).go i H ∧ ∃ Nx : Hp → Prop, (∀ H', Nx H' → ∃ m', m' < m ∧ W (i + 1) m' H') ∧ ∀ x H', (Itt K a).yld i H x H' → gName j x (wipe σ [j]) H' fun σ2 H2 => wipe σ2 [j] = wipe σ [j] ∧ tYes σ2 H2 fun b H3 =>
        if b = true then te σ2 H3 fun y H4 => ∃ acc, H4 D = some (.lst acc) ∧ acc.length < sizeLine ∧ Nx (upd H4 D (.lst (acc ++ [y]))) else Nx H3) := by
  refine lc_tup (K := K) (a := a) (xs := xs) (fun i H => Same H1 H ∧ H D = some (.lst (ys.take i))) ⟨same_new hD _, by rw [upd_same]; rfl⟩ (fun i H _ p => sqT_same p.1 hx) (fun i x H hi p => ?_) (fun H p => ?_)
  · have hi2 : i < xs.length := (List.getElem?_eq_some_iff.mp hi).1
    have hy : ys[i]? = some ys[i] := List.getElem?_eq_getElem (by omega)
    refine ⟨wipe1 _ _ _, ?_⟩
    show te ((wipe σ [j]).set j (some x)) H _
    refine el i x _ H hi hy p.1 _ fun H'' e => ?_
    refine ⟨ys.take i, e _ _ p.2, by rw [List.length_take]; omega, same_upd (p.1.trans e) hD, ?_⟩
    rw [upd_same, List.take_succ, hy]
    rfl
  · obtain ⟨p1, p2⟩ := p
    rw [← hl, List.take_length] at p2
    exact hd H p1 p2
/-- .. a list -/
theorem lc_map_list {K : PySem.W.Frag} {a : Addr} {xs ys : List V} {te : TE} {j : Nat} {σ : L2.St} {H1 : Hp} {D : Addr} {Qd : Hp → Prop} (hx : SqL K H1 a xs) (hD : H1 D = none) (hl : ys.length = xs.length) (hz : ys.length ≤ sizeLine)
    (el : ∀ (i : Nat) (x y : V) (H' : Hp), xs[i]? = some x → ys[i]? = some y → Same H1 H' → ∀ Q : VK, (∀ H'', Same H' H'' → Q y H'') → te ((wipe σ [j]).set j (some x)) H' Q)
    (hd : ∀ H', Same H1 H' → H' D = some (.lst ys) → Qd H') :
    ∃ W : Nat → Nat → Hp → Prop, (∃ m, W 0 m (upd H1 D (.lst []))) ∧ ∀ i m H, W i m H →
      ((Itl K a).stop i H ∧ Qd H) ∨ ((Itl K a).go i H ∧ ∃ Nx : Hp → Prop, (∀ H', Nx H' → ∃ m', m' < m ∧ W (i + 1) m' H') ∧ ∀ x H', (Itl K a).yld i H x H' → gName j x (wipe σ [j]) H' fun σ2 H2 => wipe σ2 [j] = wipe σ [j] ∧ tYes σ2 H2 fun b H3 =>
        if b = true then te σ2 H3 fun y H4 => ∃ acc, H4 D = some (.lst acc) ∧ acc.length < sizeLine ∧ Nx (upd H4 D (.lst (acc ++ [y]))) else Nx H3) := by
  refine lc_list (K := K) (a := a) (xs := xs) (fun i H => Same H1 H ∧ H D = some (.lst (ys.take i))) ⟨same_new hD _, by rw [upd_same]; rfl⟩ (fun i H _ p => p.1.seq hx) (fun i x H hi p => ?_) (fun H p => ?_)
  · have hi2 : i < xs.length := (List.getElem?_eq_some_iff.mp hi).1
    have hy : ys[i]? = some ys[i] := List.getElem?_eq_getElem (by omega)
    refine ⟨wipe1 _ _ _, ?_⟩
    show te ((wipe σ [j]).set j (some x)) H _
    refine el i x _ H hi hy p.1 _ fun H'' e => ?_
    refine ⟨ys.take i, e _ _ p.2, by rw [List.length_take]; omega, same_upd (p.1.trans e) hD, ?_⟩
    rw [upd_same, List.take_succ, hy]
    rfl
  · obtain ⟨p1, p2⟩ := p
    rw [← hl, List.take_length] at p2
    exact hd H p1 p2
theorem sl1000 {n : Nat} (h : n ≤ 100000) : n ≤ sizeLine := Nat.le_trans h (by rw [sizeLine_eq]; decide)
theorem sl1001 {n : Nat} (h : n < 100000) : n < sizeLine := Nat.lt_of_lt_of_le h (by rw [sizeLine_eq]; decide)
theorem cut1 (x y : V) : cutV [x, y] (some 1) none = [y] := rfl
theorem cut2 (x y z : V) : cutV [x, y, z] (some 1) none = [y, z] := rfl
theorem cut1a (x : V) (xs : List V) : cutV (x :: xs) (some 1) none = xs := by
  unfold cutV
  have e1 : HT.sIx (x :: xs).length 0 (some 1) = 1 := by
    rw [show (some (1 : Int)) = some ((1 : Nat) : Int) from rfl, HT.sIx_nat, List.length_cons]
    omega
  have e2 : HT.sIx (x :: xs).length (x :: xs).length none = (x :: xs).length := rfl
  rw [e1, e2, List.length_cons, List.drop_succ_cons, List.drop_zero, Nat.add_sub_cancel, List.take_length]
theorem cutNot (x : V) (xs : List V) : ¬ (HT.sIx (x :: xs).length 0 (some 1) = 0 ∧ HT.sIx (x :: xs).length (x :: xs).length none = (x :: xs).length) := by
  intro z
  have e1 : HT.sIx (x :: xs).length 0 (some 1) = 1 := by
    rw [show (some (1 : Int)) = some ((1 : Nat) : Int) from rfl, HT.sIx_nat, List.length_cons]
    omega
  rw [e1] at z
  exact absurd z.1 (by decide)
end Lm
set_option Elab.async false
set_option linter.all false
set_option maxRecDepth 100000
set_option maxHeartbeats 2000000
namespace Lm
open PySem PySem.Spec PyProof.Rows L2
/-! ### what is a formula: the mirror of is_formula -/
def isNum : PyData → Bool
  | .int _ => true
  | _ => false
def isSg : PyData → Bool
  | .int i => decide (0 ≤ i) && decide (i ≤ 99)
  | _ => false
def arOf (x : Str) : Option Int :=
  if x = ("not" : Str) then some 1 else if x = ("and" : Str) then some 2 else if x = ("or" : Str) then some 2 else if x = ("then" : Str) then some 2 else none
def sgOf : List PyData → Bool
  | [d] => isSg d
  | _ => false
def isF : Nat → PyData → Bool
  | n + 1, .tuple (.str x :: ds) =>
    if x = ("sign" : Str) then sgOf ds
    else match arOf x with
      | none => false
      | some k => decide (((ds.length + 1 : Nat) : Int) = 1 + k) && (ds.map (isF n)).all id
  | _, _ => false
theorem isF_zero (d : PyData) : isF 0 d = false := by cases d <;> rfl
theorem isF_toD : ∀ (f : Fm) (n : Nat), f.good → f.dep ≤ n → isF n f.toD = true
  | .sg i, n, h, hd => by
    cases n with
    | zero => exact absurd hd (by show ¬ 1 ≤ 0; decide)
    | succ n =>
      show (if ("sign" : Str) = ("sign" : Str) then (decide (0 ≤ i) && decide (i ≤ 99)) else _) = true
      rw [if_pos rfl, decide_eq_true h.1, decide_eq_true h.2]
      rfl
  | .no f, n, h, hd => by
    cases n with
    | zero => exact absurd hd (by show ¬ f.dep + 1 ≤ 0; omega)
    | succ n =>
      have q := isF_toD f n h (by have hd : f.dep + 1 ≤ n + 1 := hd; omega)
      have e1 : ¬ ("not" : Str) = ("sign" : Str) := by decide +kernel
      have e2 : arOf ("not" : Str) = some 1 := by decide +kernel
      rw [Fm.toD_no, isF, if_neg e1, e2]
      simp [q]
  | .bi w f g, n, h, hd => by
    cases n with
    | zero => exact absurd hd (by show ¬ max f.dep g.dep + 1 ≤ 0; omega)
    | succ n =>
      have hd : max f.dep g.dep + 1 ≤ n + 1 := hd
      have q1 := isF_toD f n h.1 (by omega)
      have q2 := isF_toD g n h.2 (by omega)
      have e2 : arOf w.txt = some 2 := by cases w <;> decide +kernel
      rw [Fm.toD_bi, isF, if_neg (txt_sign w), e2]
      simp [q1, q2]

/-! ### promises -/
section
variable (K : PySem.W.Frag)
def spIsNum : Sp := fun vs H Q _ => ∃ v d, vs = [v] ∧ Dp K H v d ∧ Q (.bl (isNum d)) H
def spIsSign : Sp := fun vs H Q _ => ∃ v d, vs = [v] ∧ Dp K H v d ∧ Q (.bl (isSg d)) H
def spIsF (n : Nat) : Sp := fun vs H Q _ => ∃ (v : V) (d : PyData) (k : Int), vs = [v, .int k] ∧ Dp K H v d ∧ 0 ≤ k ∧ k < (n : Int) ∧ ∀ H', Same H H' → Q (.bl (isF k.toNat d)) H'
def spIsFormula : Sp := fun vs H Q _ => ∃ v d, vs = [v] ∧ Dp K H v d ∧ ∀ H', Same H H' → Q (.bl (isF 12 d)) H'
/-- where nothing is refused -/
def spRefuse0 : Sp := fun vs H Q _ => ∃ v d, vs = [v] ∧ Dp K H v d ∧ isF 12 d = true ∧ ∀ H', Same H H' → Q .non H'
def spInner : Sp := fun vs H Q _ => ∃ (v : V) (f : Fm), vs = [v] ∧ Dp K H v f.toD ∧ ∀ (r : Addr) (H' : Hp) (ys : List V), Same H H' → SqT K H' r ys → DpAll K H' ys (f.kids.map Fm.toD) → Q (.ref r) H'
def spSpelled (n : Nat) : Sp := fun vs H Q _ => ∃ (v : V) (f : Fm), vs = [v] ∧ Dp K H v f.toD ∧ f.good ∧ f.dep ≤ 12 ∧ f.dep < n ∧ ∀ H', Same H H' → Q (.str (spS f)) H'
/-- the dict of the parts found -/
def Found (H : Hp) (kvs : List (Key × V)) (fs : List Fm) : Prop := Paired (fun (p : Key × V) (f : Fm) => p.1 = Sum.inr (spS f) ∧ Dp K H p.2 f.toD) kvs fs
def spFind (n : Nat) : Sp := fun vs H Q _ => ∃ (v : V) (f : Fm) (a : Addr) (kvs : List (Key × V)) (fs : List Fm), vs = [v, .ref a] ∧ Dp K H v f.toD ∧ f.good ∧ f.dep ≤ 12 ∧ f.dep < n ∧
  H a = some (.dK kvs) ∧ Found K H kvs fs ∧ (∀ g ∈ fs, g.good) ∧ fs.length + f.size ≤ 10000 ∧
  ∀ (H' : Hp) (kvs' : List (Key × V)), But a H H' → H' a = some (.dK kvs') → Found K H' kvs' (findP f fs) → Q .non H'
def spParts : Sp := fun vs H Q _ => ∃ (v : V) (f : Fm), vs = [v] ∧ Dp K H v f.toD ∧ f.good ∧ f.dep ≤ 12 ∧
  ∀ (r : Addr) (H' : Hp) (ys : List V), Same H H' → H' r = some (.lst ys) → DpAll K H' ys ((findP f []).map Fm.toD) → Q (.ref r) H'
def spIsTrue (n : Nat) : Sp := fun vs H Q _ => ∃ (v : V) (f : Fm) (a : Addr) (kvs : List (Key × V)) (S : Int → Bool), vs = [v, .ref a] ∧ Dp K H v f.toD ∧ f.dep < n ∧ H a = some (.dK kvs) ∧ (∀ i : Int, (valV kvs (Sum.inl i)).isSome = S i) ∧
  ∀ H', Same H H' → Q (.bl (f.tr S)) H'
def spTruth : Sp := fun vs H Q _ => ∃ (v : V) (f : Fm) (a : Addr) (ns : List Int), vs = [v, .ref a] ∧ Dp K H v f.toD ∧ f.good ∧ f.dep ≤ 12 ∧ SqL K H a (ns.map V.int) ∧ ns.length ≤ 1000 ∧
  ∀ H', Same H H' → Q (.bl (f.tr fun i => decide (i ∈ ns))) H'
end
section
variable {K : PySem.W.Frag} {H H' : Hp}
theorem found_keep (t : Tk K H H') : ∀ {kvs : List (Key × V)} {fs : List Fm}, Found K H kvs fs → Found K H' kvs fs
  | _, _, .nil => .nil
  | _, _, .cons h r => .cons ⟨h.1, fm_keep t _ _ h.2⟩ (found_keep t r)
theorem found_len {kvs : List (Key × V)} {fs : List Fm} (h : Found K H kvs fs) : kvs.length = fs.length := Paired.length h
theorem found_app : ∀ {kvs ks : List (Key × V)} {fs gs : List Fm}, Found K H kvs fs → Found K H ks gs → Found K H (kvs ++ ks) (fs ++ gs)
  | _, _, _, _, .nil, k => k
  | _, _, _, _, .cons h r, k => .cons h (found_app r k)
theorem found_at {f : Fm} (hf : f.good) : ∀ {kvs : List (Key × V)} {fs : List Fm}, Found K H kvs fs → (∀ g ∈ fs, g.good) → (valV kvs (Sum.inr (spS f))).isSome = decide (f ∈ fs)
  | _, _, .nil, _ => rfl
  | p :: ks, g :: gs, .cons h r, hg => by
    have ih := found_at hf r fun x hx => hg x (List.mem_cons_of_mem _ hx)
    by_cases e : g = f
    · subst e
      rw [valV_pos h.1, decide_eq_true (List.mem_cons_self)]
      rfl
    · have ne : ¬ p.1 = Sum.inr (spS f) := fun z => e (spS_inj (hg g List.mem_cons_self) hf (Sum.inr.inj (h.1.symm.trans z)))
      rw [valV_neg ne, ih]
      by_cases m : f ∈ gs
      · rw [decide_eq_true m, decide_eq_true (List.mem_cons_of_mem _ m)]
      · rw [decide_eq_false m, decide_eq_false]
        intro z
        rcases List.mem_cons.mp z with z | z
        · exact e z.symm
        · exact m z
theorem found_vals : ∀ {kvs : List (Key × V)} {fs : List Fm}, Found K H kvs fs → DpAll K H (kvs.map (·.2)) (fs.map Fm.toD)
  | _, _, .nil => .nil
  | _, _, .cons h r => .cons h.2 (found_vals r)
end
theorem dp_kids {K : PySem.W.Frag} {H : Hp} {v : V} {f : Fm} (h : Dp K H v f.toD) : ∃ a w xs, v = .ref a ∧ SqT K H a (w :: xs) ∧ (match f with | .sg i => w = .str ("sign" : Str) ∧ xs = [.int i] | .no g => w = .str ("not" : Str) ∧ DpAll K H xs [g.toD] | .bi b g k => w = .str b.txt ∧ DpAll K H xs [g.toD, k.toD]) := by
  cases f with
  | sg i =>
    obtain ⟨a, rfl, hs⟩ := dp_sg h
    exact ⟨a, _, _, rfl, hs, rfl, rfl⟩
  | no g =>
    obtain ⟨a, x, rfl, hs, hx⟩ := dp_no h
    exact ⟨a, _, _, rfl, hs, rfl, .cons hx .nil⟩
  | bi b g k =>
    obtain ⟨a, x, y, rfl, hs, hx, hy⟩ := dp_bi h
    exact ⟨a, _, _, rfl, hs, rfl, .cons hx (.cons hy .nil)⟩
/-- the module's dict of words -/
structure ManyD (K : PySem.W.Frag) (w : World) (d : Addr) (es : Array DictEntry) (n : Nat) : Prop where
  kd : KDict K w d es n
  nt : ∃ t, PySem.W.nsIn K d "not" = some (some (.int 1 t))
  an : ∃ t, PySem.W.nsIn K d "and" = some (some (.int 2 t))
  o_ : ∃ t, PySem.W.nsIn K d "or" = some (some (.int 2 t))
  th : ∃ t, PySem.W.nsIn K d "then" = some (some (.int 2 t))
  no : ∀ x : Str, arOf x = none → PySem.W.nsIn K d x = some none
theorem ManyD.get {K : PySem.W.Frag} {w : World} {d : Addr} {es : Array DictEntry} {n : Nat} (D : ManyD K w d es n) {x : Str} {k : Int} (h : arOf x = some k) : ∃ t, PySem.W.nsIn K d x = some (some (.int k t)) := by
  unfold arOf at h
  split at h
  · rename_i e; cases h; rw [e]; exact D.nt
  · split at h
    · rename_i e; cases h; rw [e]; exact D.an
    · split at h
      · rename_i e; cases h; rw [e]; exact D.o_
      · split at h
        · rename_i e; cases h; rw [e]; exact D.th
        · cases h
theorem ManyD.is {K : PySem.W.Frag} {w : World} {d : Addr} {es : Array DictEntry} {n : Nat} (D : ManyD K w d es n) (x : Str) : ∃ r, PySem.W.nsIn K d x = some r ∧ r.isSome = (arOf x).isSome := by
  cases e : arOf x with
  | none => exact ⟨none, D.no x e, rfl⟩
  | some k =>
    obtain ⟨t, q⟩ := D.get e
    exact ⟨_, q, rfl⟩
end Lm
set_option Elab.async false
set_option linter.all false
set_option maxRecDepth 100000
set_option maxHeartbeats 400000
namespace Lm
open PySem PySem.Spec PyProof.Rows L2
section
variable {X : Cx}
/-- list + list, wherever they come from -/
def rCatL (K : PySem.W.Frag) : R2 := fun x y H Q => ∃ (l b : Addr) (xs zs : List V), x = .ref l ∧ y = .ref b ∧ SqL K H l xs ∧ SqL K H b zs ∧ xs.length + zs.length ≤ sizeLine ∧ ∀ p, H p = none → Q (.ref p) (upd H p (.lst (xs ++ zs)))
theorem op_catL : OpR X (binaryOp .Add) (rCatL X.K) := by
  intro pins s σ H x y v u Q I rx ry h
  obtain ⟨l, b, xs, zs, rfl, rfl, hl, hb, hz, q⟩ := h
  cases rx
  cases ry
  obtain ⟨is, r1, ⟨⟨c1, d1, a1, s1⟩, n1, g1, e1, e2, e3⟩, _⟩ := I.list hl
  obtain ⟨js, r2, ⟨⟨c2, d2, a2, s2⟩, n2, g2, k1, k2, k3⟩, _⟩ := I.list hb
  dsimp only at e1 e2 e3 k1 k2 k3
  subst e1 e2 e3 k1 k2 k3
  have l1 := r1.length
  have l2 := r2.length
  refine concat_meets ⟨_, g1, rfl⟩ ⟨_, g2, rfl⟩ noFill_list_add seq_list_add PySem.F.slot_list_add PySem.F.entry_list_add (PySem.F.args_list_add_2 _ _) (list_addW l b is.toArray js.toArray n1 n2 _ _ s1 s2 (by rw [List.size_toArray, List.size_toArray]; omega)) ⟨g1, g2, ?_⟩
  rw [show is.toArray ++ js.toArray = (is ++ js).toArray from by simp]
  exact ⟨.ref _, _, I.lnew (t' := s.toks) (r1.append r2) (by rw [List.length_append]; omega), rfl, q _ I.fresh⟩
end
end Lm
set_option Elab.async false
set_option linter.all false
set_option maxRecDepth 100000
set_option maxHeartbeats 400000
/-! pure readings: data alone -/
namespace Lm
open PySem PySem.Spec PyProof.Rows L2
abbrev Rho := List (Option PyData)
/-- the slots hold these data -/
def EnvD (K : PySem.W.Frag) (H : Hp) (σ : L2.St) (ρ : Rho) : Prop := σ.length = ρ.length ∧ ∀ (i : Nat) (d : PyData), ρ[i]? = some (some d) → ∃ v, σ[i]? = some (some v) ∧ Dp K H v d
section
variable {K : PySem.W.Frag} {H H' : Hp} {σ : L2.St} {ρ : Rho} {v : V} {d : PyData}
theorem EnvD.same (h : EnvD K H σ ρ) (e : Same H H') : EnvD K H' σ ρ := ⟨h.1, fun i d q => (h.2 i d q).imp fun v p => ⟨p.1, dp_same e _ _ p.2⟩⟩
theorem EnvD.put (h : EnvD K H σ ρ) (hd : Dp K H v d) (i : Nat) : EnvD K H (σ.set i (some v)) (ρ.set i (some d)) := by
  refine ⟨by rw [List.length_set, List.length_set, h.1], fun j e q => ?_⟩
  by_cases c : i = j
  · subst c
    by_cases l : i < ρ.length
    · rw [List.getElem?_set_self l] at q
      cases q
      exact ⟨v, List.getElem?_set_self (by rw [h.1]; exact l), hd⟩
    · rw [List.getElem?_eq_none (by rw [List.length_set]; omega)] at q
      cases q
  · rw [List.getElem?_set_ne c] at q
    obtain ⟨u, a, b⟩ := h.2 j e q
    exact ⟨u, by rw [List.getElem?_set_ne c]; exact a, b⟩
theorem EnvD.drop (h : EnvD K H σ ρ) (i : Nat) : EnvD K H (σ.set i none) (ρ.set i none) := by
  refine ⟨by rw [List.length_set, List.length_set, h.1], fun j e q => ?_⟩
  by_cases c : i = j
  · subst c
    by_cases l : i < ρ.length
    · rw [List.getElem?_set_self l] at q
      cases q
    · rw [List.getElem?_eq_none (by rw [List.length_set]; omega)] at q
      cases q
  · rw [List.getElem?_set_ne c] at q
    obtain ⟨u, a, b⟩ := h.2 j e q
    exact ⟨u, by rw [List.getElem?_set_ne c]; exact a, b⟩
theorem EnvD.nil : EnvD K H [] [] := ⟨rfl, fun _ _ q => nomatch q⟩
theorem EnvD.cons (hd : Dp K H v d) (h : EnvD K H σ ρ) : EnvD K H (some v :: σ) (some d :: ρ) := ⟨by rw [List.length_cons, List.length_cons, h.1], fun i e q => by
  cases i with
  | zero => cases q; exact ⟨v, rfl, hd⟩
  | succ i => exact h.2 i e q⟩
theorem EnvD.non (h : EnvD K H σ ρ) (x : Option V) : EnvD K H (x :: σ) (none :: ρ) := ⟨by rw [List.length_cons, List.length_cons, h.1], fun i e q => by
  cases i with
  | zero => cases q
  | succ i => exact h.2 i e q⟩
end
/-- what is hidden: lists and dicts -/
def Hid (M : Addr → Bool) (H : Hp) : Prop := ∀ p, M p = true → (∃ xs, H p = some (.lst xs)) ∨ ∃ kvs, H p = some (.dK kvs)
/-- the heap without what is hidden -/
def vis (M : Addr → Bool) (H : Hp) : Hp := fun b => if M b = true then none else H b
section
variable {M : Addr → Bool} {H H' : Hp} {p : Addr} {o : HO}
theorem vis_sub : Same (vis M H) H := fun b u h => by
  unfold vis at h
  split at h
  · cases h
  · exact h
theorem vis_same (e : Same H H') : Same (vis M H) (vis M H') := fun b u h => by
  unfold vis at h ⊢
  split at h
  · cases h
  · rename_i c
    rw [if_neg c]
    exact e b u h
theorem Hid.same (h : Hid M H) (e : Same H H') : Hid M H' := fun p c => by
  rcases h p c with ⟨x, q⟩ | ⟨x, q⟩
  · exact .inl ⟨x, e _ _ q⟩
  · exact .inr ⟨x, e _ _ q⟩
theorem Hid.non (h : Hid M H) (n : H p = none) : M p = false := by
  cases c : M p with
  | false => rfl
  | true => rcases h p c with ⟨x, q⟩ | ⟨x, q⟩ <;> (rw [n] at q; cases q)
theorem vis_new (h : Hid M H) (n : H p = none) : vis M (upd H p o) p = some o := by
  unfold vis
  rw [h.non n, if_neg Bool.false_ne_true, upd_same]
theorem Hid.none : Hid (fun _ => false) H := fun p c => nomatch c
theorem vis_none : vis (fun _ => false) H = H := by
  funext b
  unfold vis
  rw [if_neg Bool.false_ne_true]
theorem Hid.tk {K : PySem.W.Frag} (h : Hid M H) : Tk K H (vis M H) := fun b xs q => by
  have c : ∀ o, H b = some o → (∀ ys, o ≠ .lst ys) → (∀ kvs, o ≠ .dK kvs) → vis M H b = some o := fun o e n1 n2 => by
    cases c : M b with
    | true =>
      rcases h b c with ⟨x, q⟩ | ⟨x, q⟩
      · rw [e] at q; exact absurd (Option.some.inj q) (n1 x)
      · rw [e] at q; exact absurd (Option.some.inj q) (n2 x)
    | false =>
      unfold vis
      rw [c, if_neg Bool.false_ne_true]
      exact e
  rcases q with (q | ⟨o, q⟩) | q
  · exact .inl (.inl (c _ q (fun _ z => nomatch z) (fun _ z => nomatch z)))
  · exact .inl (.inr ⟨o, c _ q (fun _ z => nomatch z) (fun _ z => nomatch z)⟩)
  · exact .inr q
end
/-- the expression gives the data d, and nothing that stood is changed -/
def PuE (K : PySem.W.Frag) (te : TE) (ρ : Rho) (d : PyData) : Prop := ∀ (M : Addr → Bool) σ H, Hid M H → EnvD K (vis M H) σ ρ → ∀ Q : VK, (∀ v H', Same H H' → Dp K (vis M H') v d → Q v H') → te σ H Q
def PuA (K : PySem.W.Frag) (ta : TA) (ρ : Rho) (ds : List PyData) : Prop := ∀ (M : Addr → Bool) σ H, Hid M H → EnvD K (vis M H) σ ρ → ∀ Q : List V → Hp → Prop, (∀ vs H', Same H H' → DpAll K (vis M H') vs ds → Q vs H') → ta σ H Q
def PuT (K : PySem.W.Frag) (tt : TT) (ρ : Rho) (b : Bool) : Prop := ∀ (M : Addr → Bool) σ H, Hid M H → EnvD K (vis M H) σ ρ → ∀ Q : Bool → Hp → Prop, (∀ H', Same H H' → Q b H') → tt σ H Q
section
variable {K : PySem.W.Frag} {ρ : Rho} {te ta tb tc : TE} {tA : TA} {tt tu : TT} {d e : PyData} {ds es : List PyData}
theorem PuE.cast (h : PuE K te ρ d) (q : d = e) : PuE K te ρ e := q ▸ h
theorem PuT.cast {b c : Bool} (h : PuT K tt ρ b) (q : b = c) : PuT K tt ρ c := q ▸ h
theorem pu_var {i : Nat} (h : ρ[i]? = some (some d)) : PuE K (tVar i) ρ d := fun M σ H hid en Q q => by
  obtain ⟨v, a, b⟩ := en.2 i d h
  exact ⟨v, a, q v H (Same.refl _) b⟩
theorem pu_int (i : Int) : PuE K (tC (.int i)) ρ (.int i) := fun M σ H hid en Q q => q _ H (Same.refl _) (.int i)
theorem pu_str (x : Str) : PuE K (tC (.str x)) ρ (.str x) := fun M σ H hid en Q q => q _ H (Same.refl _) (.str x)
theorem pu_bl (b : Bool) : PuE K (tC (.bl b)) ρ (.bool b) := fun M σ H hid en Q q => q _ H (Same.refl _) (.bl b)
theorem pu_non : PuE K (tC .non) ρ .none := fun M σ H hid en Q q => q _ H (Same.refl _) .non
theorem pu_nil : PuA K tNil ρ [] := fun M σ H hid en Q q => q [] H (Same.refl _) .nil
theorem pu_cons (h : PuE K te ρ d) (k : PuA K tA ρ ds) : PuA K (tCons te tA) ρ (d :: ds) := fun M σ H hid en Q q =>
  h M σ H hid en _ fun v H1 e1 hv => k M σ H1 (hid.same e1) (en.same (vis_same e1)) _ fun vs H2 e2 hvs => q (v :: vs) H2 (e1.trans e2) (.cons (dp_same (vis_same e2) _ _ hv) hvs)
theorem pu_tup (h : PuA K tA ρ ds) (hl : ds.length ≤ 100000 := by decide) : PuE K (tTup tA) ρ (.tuple ds) := fun M σ H hid en Q q =>
  h M σ H hid en _ fun vs H1 e1 hvs => ⟨sl1000 (by rw [dpAll_len hvs]; exact hl), fun p np => q (.ref p) _ (e1.trans (same_new np _)) (.tup (SqT.of (vis_new (hid.same e1) np)) (dpAll_same (vis_same (same_new np _)) _ _ hvs))⟩
theorem pu_lst (h : PuA K tA ρ ds) (hl : ds.length ≤ 100000 := by decide) : PuE K (tLst tA) ρ (.list ds) := fun M σ H hid en Q q =>
  h M σ H hid en _ fun vs H1 e1 hvs => ⟨sl1000 (by rw [dpAll_len hvs]; exact hl), fun p np => q (.ref p) _ (e1.trans (same_new np _)) (.lst (SqL.of (vis_new (hid.same e1) np)) (dpAll_same (vis_same (same_new np _)) _ _ hvs))⟩
/-! data opened -/
theorem dp_tupI {H : Hp} {v : V} (h : Dp K H v (.tuple ds)) : ∃ a vs, v = .ref a ∧ SqT K H a vs ∧ DpAll K H vs ds := by
  cases h with
  | tup hs ha => exact ⟨_, _, rfl, hs, ha⟩
theorem dp_lstI {H : Hp} {v : V} (h : Dp K H v (.list ds)) : ∃ a vs, v = .ref a ∧ SqL K H a vs ∧ DpAll K H vs ds := by
  cases h with
  | lst hs ha => exact ⟨_, _, rfl, hs, ha⟩
theorem dp_intI {H : Hp} {v : V} {i : Int} (h : Dp K H v (.int i)) : v = .int i := by cases h; rfl
theorem dp_blI {H : Hp} {v : V} {b : Bool} (h : Dp K H v (.bool b)) : v = .bl b := by cases h; rfl
theorem dp_strI {H : Hp} {v : V} {x : Str} (h : Dp K H v (.str x)) : v = .str x := by cases h; rfl
theorem dp_nonI {H : Hp} {v : V} (h : Dp K H v .none) : v = .non := by cases h; rfl
theorem dpAll_bls {H : Hp} : ∀ {bs : List Bool} {vs : List V}, DpAll K H vs (bs.map PyData.bool) → vs = bs.map V.bl
  | [], _, h => by cases h; rfl
  | b :: bs, _, h => by
    have h : DpAll K H _ (PyData.bool b :: bs.map PyData.bool) := h
    cases h with
    | cons h1 h2 => rw [dp_blI h1, dpAll_bls h2]; rfl
theorem dpAll_nums {H : Hp} : ∀ {ns : List Int} {vs : List V}, DpAll K H vs (ns.map PyData.int) → vs = ns.map V.int
  | [], _, h => by cases h; rfl
  | b :: bs, _, h => by
    have h : DpAll K H _ (PyData.int b :: bs.map PyData.int) := h
    cases h with
    | cons h1 h2 => rw [dp_intI h1, dpAll_nums h2]; rfl
theorem dpAll_at {H : Hp} {vs : List V} (h : DpAll K H vs ds) {j : Nat} (hd : ds[j]? = some d) : ∃ v, vs[j]? = some v ∧ Dp K H v d := by
  have hl := dpAll_len h
  have hj : j < vs.length := by rw [hl]; exact (List.getElem?_eq_some_iff.mp hd).1
  obtain ⟨e, he, hv⟩ := dpAll_get h (List.getElem?_eq_getElem hj)
  rw [hd] at he
  cases he
  exact ⟨_, List.getElem?_eq_getElem hj, hv⟩
theorem atI_dp {H : Hp} {vs : List V} (h : DpAll K H vs ds) {i : Int} (hd : atI ds i = some d) : ∃ v, atI vs i = some v ∧ Dp K H v d := by
  unfold atI at hd ⊢
  rw [dpAll_len h]
  cases e : ixN ds.length i with
  | none => rw [e] at hd; cases hd
  | some j => rw [e] at hd; exact dpAll_at h hd
theorem pu_ixT {i : Int} (h1 : PuE K ta ρ (.tuple ds)) (h2 : PuE K tb ρ (.int i)) (h : atI ds i = some d) : PuE K (tOp (rIxT K) ta tb) ρ d := fun M σ H hid en Q q =>
  h1 M σ H hid en _ fun v H1 e1 hv => h2 M σ H1 (hid.same e1) (en.same (vis_same e1)) _ fun u H2 e2 hu => by
    obtain ⟨a, vs, rfl, hs, ha⟩ := dp_tupI (dp_same (vis_same e2) _ _ hv)
    obtain rfl := dp_intI hu
    obtain ⟨x, hx, hdx⟩ := atI_dp ha h
    exact ⟨a, vs, i, x, rfl, rfl, sqT_same vis_sub hs, hx, q x H2 (e1.trans e2) hdx⟩
theorem pu_ixL {i : Int} (h1 : PuE K ta ρ (.list ds)) (h2 : PuE K tb ρ (.int i)) (h : atI ds i = some d) : PuE K (tOp (rIxL K) ta tb) ρ d := fun M σ H hid en Q q =>
  h1 M σ H hid en _ fun v H1 e1 hv => h2 M σ H1 (hid.same e1) (en.same (vis_same e1)) _ fun u H2 e2 hu => by
    obtain ⟨a, vs, rfl, hs, ha⟩ := dp_lstI (dp_same (vis_same e2) _ _ hv)
    obtain rfl := dp_intI hu
    obtain ⟨x, hx, hdx⟩ := atI_dp ha h
    exact ⟨a, vs, i, x, rfl, rfl, vis_sub.seq hs, hx, q x H2 (e1.trans e2) hdx⟩
/-! numbers -/
theorem pu_rI0 {g : Int → Int → V} {i j : Int} (h1 : PuE K ta ρ (.int i)) (h2 : PuE K tb ρ (.int j)) (hg : ∀ H, Dp K H (g i j) d) : PuE K (tOp (rI0 g) ta tb) ρ d := fun M σ H hid en Q q =>
  h1 M σ H hid en _ fun v H1 e1 hv => h2 M σ H1 (hid.same e1) (en.same (vis_same e1)) _ fun u H2 e2 hu => ⟨i, j, dp_intI hv, dp_intI hu, q _ H2 (e1.trans e2) (hg _)⟩
theorem pu_rI {C : Int → Int → Prop} {g : Int → Int → V} {i j : Int} (h1 : PuE K ta ρ (.int i)) (h2 : PuE K tb ρ (.int j)) (hc : C i j) (hg : ∀ H, Dp K H (g i j) d) : PuE K (tOp (rI C g) ta tb) ρ d := fun M σ H hid en Q q =>
  h1 M σ H hid en _ fun v H1 e1 hv => h2 M σ H1 (hid.same e1) (en.same (vis_same e1)) _ fun u H2 e2 hu => ⟨i, j, dp_intI hv, dp_intI hu, hc, q _ H2 (e1.trans e2) (hg _)⟩
theorem pu_add {i j : Int} (h1 : PuE K ta ρ (.int i)) (h2 : PuE K tb ρ (.int j)) : PuE K (tOp (rI0 fun i j => .int (i + j)) ta tb) ρ (.int (i + j)) := pu_rI0 h1 h2 fun H => .int _
theorem pu_sub {i j : Int} (h1 : PuE K ta ρ (.int i)) (h2 : PuE K tb ρ (.int j)) : PuE K (tOp (rI0 fun i j => .int (i - j)) ta tb) ρ (.int (i - j)) := pu_rI0 h1 h2 fun H => .int _
theorem pu_mul {i j : Int} (h1 : PuE K ta ρ (.int i)) (h2 : PuE K tb ρ (.int j)) (hc : CMul i j) : PuE K (tOp (rI CMul fun i j => .int (i * j)) ta tb) ρ (.int (i * j)) := pu_rI h1 h2 hc fun H => .int _
theorem pu_mod {i j : Int} (h1 : PuE K ta ρ (.int i)) (h2 : PuE K tb ρ (.int j)) (hc : 0 < j) : PuE K (tOp (rI (fun _ j => 0 < j) fun i j => .int (i % j)) ta tb) ρ (.int (i % j)) := pu_rI h1 h2 hc fun H => .int _
theorem pu_fdiv {i j : Int} (h1 : PuE K ta ρ (.int i)) (h2 : PuE K tb ρ (.int j)) (hc : CDiv i j) : PuE K (tOp (rI CDiv fun i j => .int (i / j)) ta tb) ρ (.int (i / j)) := pu_rI h1 h2 hc fun H => .int _
theorem pu_lt {i j : Int} (h1 : PuE K ta ρ (.int i)) (h2 : PuE K tb ρ (.int j)) : PuE K (tOp (rI0 fun i j => .bl (decide (i < j))) ta tb) ρ (.bool (decide (i < j))) := pu_rI0 h1 h2 fun H => .bl _
theorem pu_le {i j : Int} (h1 : PuE K ta ρ (.int i)) (h2 : PuE K tb ρ (.int j)) : PuE K (tOp (rI0 fun i j => .bl (decide (i ≤ j))) ta tb) ρ (.bool (decide (i ≤ j))) := pu_rI0 h1 h2 fun H => .bl _
theorem pu_gt {i j : Int} (h1 : PuE K ta ρ (.int i)) (h2 : PuE K tb ρ (.int j)) : PuE K (tOp (rI0 fun i j => .bl (decide (j < i))) ta tb) ρ (.bool (decide (j < i))) := pu_rI0 h1 h2 fun H => .bl _
theorem pu_ge {i j : Int} (h1 : PuE K ta ρ (.int i)) (h2 : PuE K tb ρ (.int j)) : PuE K (tOp (rI0 fun i j => .bl (decide (j ≤ i))) ta tb) ρ (.bool (decide (j ≤ i))) := pu_rI0 h1 h2 fun H => .bl _
theorem pu_eqI {i j : Int} (h1 : PuE K ta ρ (.int i)) (h2 : PuE K tb ρ (.int j)) : PuE K (tOp rEq ta tb) ρ (.bool (decide (i = j))) := fun M σ H hid en Q q =>
  h1 M σ H hid en _ fun v H1 e1 hv => h2 M σ H1 (hid.same e1) (en.same (vis_same e1)) _ fun u H2 e2 hu => by
    obtain rfl := dp_intI hv
    obtain rfl := dp_intI hu
    refine ⟨rfl, ?_⟩
    have e : (decide (V.int i = V.int j)) = decide (i = j) := decide_eq_decide.mpr ⟨fun z => V.int.inj z, fun z => z ▸ rfl⟩
    rw [e]
    exact q _ H2 (e1.trans e2) (.bl _)
theorem pu_neI {i j : Int} (h1 : PuE K ta ρ (.int i)) (h2 : PuE K tb ρ (.int j)) : PuE K (tOp rNe ta tb) ρ (.bool (!decide (i = j))) := fun M σ H hid en Q q =>
  h1 M σ H hid en _ fun v H1 e1 hv => h2 M σ H1 (hid.same e1) (en.same (vis_same e1)) _ fun u H2 e2 hu => by
    obtain rfl := dp_intI hv
    obtain rfl := dp_intI hu
    refine ⟨rfl, ?_⟩
    have e : (decide (V.int i = V.int j)) = decide (i = j) := decide_eq_decide.mpr ⟨fun z => V.int.inj z, fun z => z ▸ rfl⟩
    rw [e]
    exact q _ H2 (e1.trans e2) (.bl _)
theorem pu_eqS {i j : Str} (h1 : PuE K ta ρ (.str i)) (h2 : PuE K tb ρ (.str j)) : PuE K (tOp rEq ta tb) ρ (.bool (decide (i = j))) := fun M σ H hid en Q q =>
  h1 M σ H hid en _ fun v H1 e1 hv => h2 M σ H1 (hid.same e1) (en.same (vis_same e1)) _ fun u H2 e2 hu => by
    obtain rfl := dp_strI hv
    obtain rfl := dp_strI hu
    refine ⟨rfl, ?_⟩
    have e : (decide (V.str i = V.str j)) = decide (i = j) := decide_eq_decide.mpr ⟨fun z => V.str.inj z, fun z => z ▸ rfl⟩
    rw [e]
    exact q _ H2 (e1.trans e2) (.bl _)
theorem pu_neS {i j : Str} (h1 : PuE K ta ρ (.str i)) (h2 : PuE K tb ρ (.str j)) : PuE K (tOp rNe ta tb) ρ (.bool (!decide (i = j))) := fun M σ H hid en Q q =>
  h1 M σ H hid en _ fun v H1 e1 hv => h2 M σ H1 (hid.same e1) (en.same (vis_same e1)) _ fun u H2 e2 hu => by
    obtain rfl := dp_strI hv
    obtain rfl := dp_strI hu
    refine ⟨rfl, ?_⟩
    have e : (decide (V.str i = V.str j)) = decide (i = j) := decide_eq_decide.mpr ⟨fun z => V.str.inj z, fun z => z ▸ rfl⟩
    rw [e]
    exact q _ H2 (e1.trans e2) (.bl _)
/-! data compared -/
theorem pu_eqD (h1 : PuE K ta ρ d) (h2 : PuE K tb ρ e) (s1 : SeqAt.shaped d = true) (s2 : SeqAt.shaped e = true) : PuE K (tOp (rEqD K) ta tb) ρ (.bool (PyData.eqv d e)) := fun M σ H hid en Q q =>
  h1 M σ H hid en _ fun v H1 e1 hv => h2 M σ H1 (hid.same e1) (en.same (vis_same e1)) _ fun u H2 e2 hu => ⟨d, e, dp_same ((vis_same e2).trans vis_sub) _ _ hv, dp_same vis_sub _ _ hu, s1, s2, q _ H2 (e1.trans e2) (.bl _)⟩
theorem pu_neD (h1 : PuE K ta ρ d) (h2 : PuE K tb ρ e) (s1 : SeqAt.shaped d = true) (s2 : SeqAt.shaped e = true) : PuE K (tOp (rNeD K) ta tb) ρ (.bool (!PyData.eqv d e)) := fun M σ H hid en Q q =>
  h1 M σ H hid en _ fun v H1 e1 hv => h2 M σ H1 (hid.same e1) (en.same (vis_same e1)) _ fun u H2 e2 hu => ⟨d, e, dp_same ((vis_same e2).trans vis_sub) _ _ hv, dp_same vis_sub _ _ hu, s1, s2, q _ H2 (e1.trans e2) (.bl _)⟩
theorem pu_inD (h1 : PuE K ta ρ d) (h2 : PuE K tb ρ (.list ds)) (s1 : SeqAt.shaped d = true) (s2 : SeqAt.shaped (.list ds) = true) : PuE K (tOp (rInD K) ta tb) ρ (.bool (ds.any fun z => PyData.eqv z d)) := fun M σ H hid en Q q =>
  h1 M σ H hid en _ fun v H1 e1 hv => h2 M σ H1 (hid.same e1) (en.same (vis_same e1)) _ fun u H2 e2 hu => ⟨d, ds, dp_same ((vis_same e2).trans vis_sub) _ _ hv, dp_same vis_sub _ _ hu, s1, s2, q _ H2 (e1.trans e2) (.bl _)⟩
theorem pu_notInD (h1 : PuE K ta ρ d) (h2 : PuE K tb ρ (.list ds)) (s1 : SeqAt.shaped d = true) (s2 : SeqAt.shaped (.list ds) = true) : PuE K (tOp (rNotInD K) ta tb) ρ (.bool (!ds.any fun z => PyData.eqv z d)) := fun M σ H hid en Q q =>
  h1 M σ H hid en _ fun v H1 e1 hv => h2 M σ H1 (hid.same e1) (en.same (vis_same e1)) _ fun u H2 e2 hu => ⟨d, ds, dp_same ((vis_same e2).trans vis_sub) _ _ hv, dp_same vis_sub _ _ hu, s1, s2, q _ H2 (e1.trans e2) (.bl _)⟩
/-- is None -/
def isNo : PyData → Bool
  | .none => true
  | _ => false
theorem dp_isNo {H : Hp} {v : V} (h : Dp K H v d) : decide (v = .non) = isNo d := by
  cases h <;> first | rfl | exact decide_eq_false (fun z => nomatch z)
theorem pu_isN (h1 : PuE K ta ρ d) : PuE K (tIsN ta) ρ (.bool (isNo d)) := fun M σ H hid en Q q =>
  h1 M σ H hid en _ fun v H1 e1 hv => by
    rw [dp_isNo hv]
    exact q _ H1 e1 (.bl _)
theorem pu_notN (h1 : PuE K ta ρ d) : PuE K (tNotN ta) ρ (.bool (!isNo d)) := fun M σ H hid en Q q =>
  h1 M σ H hid en _ fun v H1 e1 hv => by
    rw [dp_isNo hv]
    exact q _ H1 e1 (.bl _)
/-! lists -/
theorem pu_cat (h1 : PuE K ta ρ (.list ds)) (h2 : PuE K tb ρ (.list es)) (hl : ds.length + es.length ≤ 100000) : PuE K (tOp (rCatL K) ta tb) ρ (.list (ds ++ es)) := fun M σ H hid en Q q =>
  h1 M σ H hid en _ fun v H1 e1 hv => h2 M σ H1 (hid.same e1) (en.same (vis_same e1)) _ fun u H2 e2 hu => by
    obtain ⟨a, vs, rfl, hs, ha⟩ := dp_lstI (dp_same (vis_same e2) _ _ hv)
    obtain ⟨b, us, rfl, ks, kb⟩ := dp_lstI hu
    refine ⟨a, b, vs, us, rfl, rfl, vis_sub.seq hs, vis_sub.seq ks, sl1000 (by rw [dpAll_len ha, dpAll_len kb]; exact hl), fun p np => ?_⟩
    exact q (.ref p) _ ((e1.trans e2).trans (same_new np _)) (.lst (SqL.of (vis_new (hid.same (e1.trans e2)) np)) (dpAll_same (vis_same (same_new np _)) _ _ (dpAll_app ha kb)))
theorem dpAll_take {H : Hp} : ∀ (n : Nat) {vs : List V} {ds : List PyData}, DpAll K H vs ds → DpAll K H (vs.take n) (ds.take n)
  | 0, _, _, _ => .nil
  | n + 1, _, _, .nil => .nil
  | n + 1, _, _, .cons h1 h2 => .cons h1 (dpAll_take n h2)
theorem dpAll_drop {H : Hp} : ∀ (n : Nat) {vs : List V} {ds : List PyData}, DpAll K H vs ds → DpAll K H (vs.drop n) (ds.drop n)
  | 0, _, _, h => h
  | n + 1, _, _, .nil => .nil
  | n + 1, _, _, .cons h1 h2 => dpAll_drop n h2
theorem cutTo' (xs : List V) (n : Nat) : cutV xs none (some (n : Int)) = xs.take n := by
  unfold cutV
  have e1 : HT.sIx xs.length 0 none = 0 := rfl
  rw [e1, HT.sIx_nat, List.drop_zero, Nat.sub_zero]
  by_cases h : n ≤ xs.length
  · rw [Nat.min_eq_left h]
  · rw [Nat.min_eq_right (by omega), List.take_length, List.take_of_length_le (by omega)]
theorem cutFrom' (xs : List V) (n : Nat) : cutV xs (some (n : Int)) none = xs.drop n := by
  unfold cutV
  have e2 : HT.sIx xs.length xs.length none = xs.length := rfl
  rw [e2, HT.sIx_nat]
  by_cases h : n ≤ xs.length
  · rw [Nat.min_eq_left h, List.take_of_length_le (by rw [List.length_drop]; omega)]
  · rw [Nat.min_eq_right (by omega), List.drop_length, List.drop_eq_nil_of_le (by omega), List.take_nil]
/-- ds[:n] -/
theorem pu_to {n : Nat} (h1 : PuE K ta ρ (.list ds)) (h2 : PuE K tb ρ (.int n)) : PuE K (tSl (rSlL K) ta tNoPart (tPart tb)) ρ (.list (ds.take n)) := fun M σ H hid en Q q =>
  h1 M σ H hid en _ fun v H1 e1 hv => h2 M σ H1 (hid.same e1) (en.same (vis_same e1)) _ fun u H2 e2 hu => by
    obtain ⟨a, vs, rfl, hs, ha⟩ := dp_lstI (dp_same (vis_same e2) _ _ hv)
    refine ⟨n, dp_intI hu, a, vs, rfl, vis_sub.seq hs, fun p np => ?_⟩
    rw [cutTo']
    exact q (.ref p) _ ((e1.trans e2).trans (same_new np _)) (.lst (SqL.of (vis_new (hid.same (e1.trans e2)) np)) (dpAll_same (vis_same (same_new np _)) _ _ (dpAll_take n ha)))
/-- ds[n:] -/
theorem pu_from {n : Nat} (h1 : PuE K ta ρ (.list ds)) (h2 : PuE K tb ρ (.int n)) : PuE K (tSl (rSlL K) ta (tPart tb) tNoPart) ρ (.list (ds.drop n)) := fun M σ H hid en Q q =>
  h1 M σ H hid en _ fun v H1 e1 hv => h2 M σ H1 (hid.same e1) (en.same (vis_same e1)) _ fun u H2 e2 hu => by
    obtain ⟨a, vs, rfl, hs, ha⟩ := dp_lstI (dp_same (vis_same e2) _ _ hv)
    refine ⟨n, dp_intI hu, a, vs, rfl, vis_sub.seq hs, fun p np => ?_⟩
    rw [cutFrom']
    exact q (.ref p) _ ((e1.trans e2).trans (same_new np _)) (.lst (SqL.of (vis_new (hid.same (e1.trans e2)) np)) (dpAll_same (vis_same (same_new np _)) _ _ (dpAll_drop n ha)))
/-! builtins -/
/-- len of a list, a tuple -/
abbrev rLn (K : PySem.W.Frag) : List V → Hp → VK → Prop := fun xs H Q => ∃ p ys, xs = [V.ref p] ∧ (SqL K H p ys ∨ SqT K H p ys) ∧ Q (.int ys.length) H
theorem pu_len_l (h1 : PuE K ta ρ (.list ds)) : PuE K (tCB (rLn K) (tCons ta tNil)) ρ (.int ds.length) := fun M σ H hid en Q q =>
  h1 M σ H hid en _ fun v H1 e1 hv => by
    obtain ⟨a, vs, rfl, hs, ha⟩ := dp_lstI hv
    refine ⟨a, vs, rfl, .inl (vis_sub.seq hs), ?_⟩
    rw [dpAll_len ha]
    exact q _ H1 e1 (.int _)
theorem pu_len_t (h1 : PuE K ta ρ (.tuple ds)) : PuE K (tCB (rLn K) (tCons ta tNil)) ρ (.int ds.length) := fun M σ H hid en Q q =>
  h1 M σ H hid en _ fun v H1 e1 hv => by
    obtain ⟨a, vs, rfl, hs, ha⟩ := dp_tupI hv
    refine ⟨a, vs, rfl, .inr (sqT_same vis_sub hs), ?_⟩
    rw [dpAll_len ha]
    exact q _ H1 e1 (.int _)
theorem pu_isInt (h1 : PuE K ta ρ d) : PuE K (tCB (rIsi K) (tCons ta (tCons (tC (.ty "int")) tNil))) ρ (.bool (isIB d)) := fun M σ H hid en Q q =>
  h1 M σ H hid en _ fun v H1 e1 hv => ⟨v, .ty "int", _, _, _, rfl, .ty "int", tyx_of (dp_same vis_sub _ _ hv), kit_int hv, q _ H1 e1 (.bl _)⟩
theorem pu_isBool (h1 : PuE K ta ρ d) : PuE K (tCB (rIsi K) (tCons ta (tCons (tC (.ty "bool")) tNil))) ρ (.bool (isBl d)) := fun M σ H hid en Q q =>
  h1 M σ H hid en _ fun v H1 e1 hv => ⟨v, .ty "bool", _, _, _, rfl, .ty "bool", tyx_of (dp_same vis_sub _ _ hv), kit_bool hv, q _ H1 e1 (.bl _)⟩
theorem pu_isStr (h1 : PuE K ta ρ d) : PuE K (tCB (rIsi K) (tCons ta (tCons (tC (.ty "str")) tNil))) ρ (.bool (isSt d)) := fun M σ H hid en Q q =>
  h1 M σ H hid en _ fun v H1 e1 hv => ⟨v, .ty "str", _, _, _, rfl, .ty "str", tyx_of (dp_same vis_sub _ _ hv), kit_str hv, q _ H1 e1 (.bl _)⟩
theorem pu_isTup (h1 : PuE K ta ρ d) : PuE K (tCB (rIsi K) (tCons ta (tCons (tC (.ty "tuple")) tNil))) ρ (.bool (isTu d)) := fun M σ H hid en Q q =>
  h1 M σ H hid en _ fun v H1 e1 hv => ⟨v, .ty "tuple", _, _, _, rfl, .ty "tuple", tyx_of (dp_same vis_sub _ _ hv), kit_tuple hv, q _ H1 e1 (.bl _)⟩
theorem pu_isLst (h1 : PuE K ta ρ d) : PuE K (tCB (rIsi K) (tCons ta (tCons (tC (.ty "list")) tNil))) ρ (.bool (isLi d)) := fun M σ H hid en Q q =>
  h1 M σ H hid en _ fun v H1 e1 hv => ⟨v, .ty "list", _, _, _, rfl, .ty "list", tyx_of (dp_same vis_sub _ _ hv), kit_list hv, q _ H1 e1 (.bl _)⟩
theorem pu_all {bs : List Bool} (h1 : PuE K ta ρ (.list (bs.map PyData.bool))) : PuE K (tCB (rAll K) (tCons ta tNil)) ρ (.bool (bs.all id)) := fun M σ H hid en Q q =>
  h1 M σ H hid en _ fun v H1 e1 hv => by
    obtain ⟨a, vs, rfl, hs, ha⟩ := dp_lstI hv
    rw [dpAll_bls ha] at hs
    exact ⟨a, bs, rfl, vis_sub.seq hs, q _ H1 e1 (.bl _)⟩
theorem pu_any {bs : List Bool} (h1 : PuE K ta ρ (.list (bs.map PyData.bool))) : PuE K (tCB (rAny K) (tCons ta tNil)) ρ (.bool (bs.any id)) := fun M σ H hid en Q q =>
  h1 M σ H hid en _ fun v H1 e1 hv => by
    obtain ⟨a, vs, rfl, hs, ha⟩ := dp_lstI hv
    rw [dpAll_bls ha] at hs
    exact ⟨a, bs, rfl, vis_sub.seq hs, q _ H1 e1 (.bl _)⟩
theorem pu_sum {ns : List Int} (h1 : PuE K ta ρ (.list (ns.map PyData.int))) : PuE K (tCB (rSum K) (tCons ta tNil)) ρ (.int ns.sum) := fun M σ H hid en Q q =>
  h1 M σ H hid en _ fun v H1 e1 hv => by
    obtain ⟨a, vs, rfl, hs, ha⟩ := dp_lstI hv
    rw [dpAll_nums ha] at hs
    exact ⟨a, ns, rfl, vis_sub.seq hs, q _ H1 e1 (.int _)⟩
/-- a pure def: its data in, its data out -/
def spPu (K : PySem.W.Frag) (m : Nat) (g : List PyData → PyData → Prop) : Sp := fun vs H Q _ => ∃ M ds d, Hid M H ∧ vs.length = m ∧ DpAll K (vis M H) vs ds ∧ g ds d ∧ ∀ v H', Same H H' → Dp K (vis M H') v d → Q v H'
theorem pu_call {m : Nat} {g : List PyData → PyData → Prop} (h : PuA K tA ρ ds) (hm : ds.length = m := by rfl) (hg : g ds d) : PuE K (tCall (spPu K m g) [] E0 tA) ρ d := fun M σ H hid en Q q =>
  h M σ H hid en _ fun vs H1 e1 hvs => ⟨M, ds, d, hid.same e1, by rw [List.append_nil, dpAll_len hvs, hm], by rw [List.append_nil]; exact hvs, hg, fun v H' e2 hv => q v H' (e1.trans e2) hv⟩
/-! tests -/
theorem pu_tB {b : Bool} (h : PuE K te ρ (.bool b)) : PuT K (tB te) ρ b := fun M σ H hid en Q q => h M σ H hid en _ fun v H1 e1 hv => ⟨b, dp_blI hv, q H1 e1⟩
theorem pu_tTest {b : Bool} (h : PuE K te ρ (.bool b)) : PuT K (tTest te) ρ b := fun M σ H hid en Q q => h M σ H hid en _ fun v H1 e1 hv => ⟨b, dp_blI hv, q H1 e1⟩
theorem pu_tNot {b : Bool} (h : PuT K tt ρ b) : PuT K (tNot tt) ρ (!b) := fun M σ H hid en Q q => h M σ H hid en _ q
theorem pu_tAnd {b c : Bool} (h : PuT K tt ρ b) (k : b = true → PuT K tu ρ c) : PuT K (tAnd tt tu) ρ (b && c) := fun M σ H hid en Q q => h M σ H hid en _ fun H1 e1 => by
  cases b with
  | true => exact iteT (k rfl M σ H1 (hid.same e1) (en.same (vis_same e1)) _ fun H2 e2 => q H2 (e1.trans e2))
  | false => exact iteF (q H1 e1)
theorem pu_tOr {b c : Bool} (h : PuT K tt ρ b) (k : b = false → PuT K tu ρ c) : PuT K (tOr tt tu) ρ (b || c) := fun M σ H hid en Q q => h M σ H hid en _ fun H1 e1 => by
  cases b with
  | true => exact iteT (q H1 e1)
  | false => exact iteF (k rfl M σ H1 (hid.same e1) (en.same (vis_same e1)) _ fun H2 e2 => q H2 (e1.trans e2))
theorem pu_yes : PuT K tYes ρ true := fun M σ H hid en Q q => q H (Same.refl _)
theorem pu_and {b c : Bool} (h : PuE K ta ρ (.bool b)) (k : b = true → PuE K tb ρ (.bool c)) : PuE K (tAndV ta tb) ρ (.bool (b && c)) := fun M σ H hid en Q q => h M σ H hid en _ fun v H1 e1 hv => ⟨b, dp_blI hv, by
  cases b with
  | true => exact iteT (k rfl M σ H1 (hid.same e1) (en.same (vis_same e1)) _ fun u H2 e2 hu => q u H2 (e1.trans e2) hu)
  | false => exact iteF (q _ H1 e1 (.bl _))⟩
theorem pu_or {b c : Bool} (h : PuE K ta ρ (.bool b)) (k : b = false → PuE K tb ρ (.bool c)) : PuE K (tOrV ta tb) ρ (.bool (b || c)) := fun M σ H hid en Q q => h M σ H hid en _ fun v H1 e1 hv => ⟨b, dp_blI hv, by
  cases b with
  | true => exact iteT (q _ H1 e1 (.bl _))
  | false => exact iteF (k rfl M σ H1 (hid.same e1) (en.same (vis_same e1)) _ fun u H2 e2 hu => q u H2 (e1.trans e2) hu)⟩
theorem pu_not {b : Bool} (h : PuE K ta ρ (.bool b)) : PuE K (tNotV ta) ρ (.bool (!b)) := fun M σ H hid en Q q => h M σ H hid en _ fun v H1 e1 hv => ⟨b, dp_blI hv, q _ H1 e1 (.bl _)⟩
theorem pu_if {b : Bool} (h : PuT K tt ρ b) (k : b = true → PuE K ta ρ d) (k' : b = false → PuE K tb ρ d) : PuE K (tIf tt ta tb) ρ d := fun M σ H hid en Q q => h M σ H hid en _ fun H1 e1 => by
  cases b with
  | true => exact iteT (k rfl M σ H1 (hid.same e1) (en.same (vis_same e1)) _ fun v H2 e2 hv => q v H2 (e1.trans e2) hv)
  | false => exact iteF (k' rfl M σ H1 (hid.same e1) (en.same (vis_same e1)) _ fun v H2 e2 hv => q v H2 (e1.trans e2) hv)
end
end Lm
set_option Elab.async false
set_option linter.all false
set_option maxRecDepth 100000
set_option maxHeartbeats 400000
/-! pure readings: walks, comprehensions, statements -/
namespace Lm
open PySem PySem.Spec PyProof.Rows L2
/-- an iterator that yields these data wherever G stands -/
structure ItD (K : PySem.W.Frag) (J : It) (G : Hp) (ds : List PyData) : Prop where
  go : ∀ i H, Same G H → i < ds.length → J.go i H
  st : ∀ i H, Same G H → ds.length ≤ i → J.stop i H
  yl : ∀ i H x H' d, Same G H → ds[i]? = some d → J.yld i H x H' → Same H H' ∧ ∀ N : Addr → Bool, Hid N H → Same G (vis N H) → Dp K (vis N H') x d
def PuI (K : PySem.W.Frag) (wi : TI) (ρ : Rho) (ds : List PyData) : Prop := ∀ (M : Addr → Bool) σ H, Hid M H → EnvD K (vis M H) σ ρ → ∀ R : It → Hp → Prop, (∀ J H', Same H H' → ItD K J (vis M H') ds → R J H') → wi σ H R
/-- a target takes the data d -/
def PuG (K : PySem.W.Frag) (g : TG) (vs : List Nat) (ρ : Rho) (d : PyData) (ρ' : Rho) : Prop := ∀ (M : Addr → Bool) σ H v, EnvD K (vis M H) σ ρ → Dp K (vis M H) v d → ∀ R : L2.St → Hp → Prop, (∀ σ', EnvD K (vis M H) σ' ρ' → wipe σ' vs = wipe σ vs → R σ' H) → g v σ H R
def wipeR (ρ : Rho) : List Nat → Rho
  | [] => ρ
  | v :: vs => (wipeR ρ vs).set v none
theorem EnvD.wipe {K : PySem.W.Frag} {H : Hp} {σ : L2.St} {ρ : Rho} (h : EnvD K H σ ρ) : ∀ vs : List Nat, EnvD K H (L2.wipe σ vs) (wipeR ρ vs)
  | [] => h
  | v :: vs => (EnvD.wipe h vs).drop v
section
variable {K : PySem.W.Frag} {ρ ρ' ρ'' : Rho} {te ta tb tc : TE} {tA : TA} {tt tu : TT} {d e : PyData} {ds es : List PyData} {wi : TI} {g : TG} {vs : List Nat}
/-! ### what is walked -/
theorem PuI.cast (h : PuI K wi ρ ds) (e : ds = es) : PuI K wi ρ es := e ▸ h
theorem pui_list (h : PuE K te ρ (.list ds)) : PuI K (iList K te) ρ ds := fun M σ H hid en R r => h M σ H hid en _ fun v H1 e1 hv => by
  obtain ⟨a, xs, rfl, hs, ha⟩ := dp_lstI hv
  have hl := dpAll_len ha
  refine ⟨a, rfl, ⟨xs, vis_sub.seq hs⟩, r _ H1 e1 ⟨fun i H' s hi => ?_, fun i H' s hi => ⟨xs, s.seq hs, by omega⟩, fun i H' x H'' d s hd y => ?_⟩⟩
  · have : i < xs.length := by omega
    exact ⟨xs, xs[i], s.seq hs, List.getElem?_eq_getElem this⟩
  · obtain ⟨rfl, y⟩ := y
    have hx := y xs (s.seq hs)
    obtain ⟨d', hd', hv⟩ := dpAll_get ha hx
    rw [hd] at hd'
    cases hd'
    exact ⟨Same.refl _, fun N hN s2 => dp_same s2 _ _ hv⟩
theorem pui_tup (h : PuE K te ρ (.tuple ds)) : PuI K (iTup K te) ρ ds := fun M σ H hid en R r => h M σ H hid en _ fun v H1 e1 hv => by
  obtain ⟨a, xs, rfl, hs, ha⟩ := dp_tupI hv
  have hl := dpAll_len ha
  refine ⟨a, rfl, ⟨xs, sqT_same vis_sub hs⟩, r _ H1 e1 ⟨fun i H' s hi => ?_, fun i H' s hi => ⟨xs, sqT_same s hs, by omega⟩, fun i H' x H'' d s hd y => ?_⟩⟩
  · have : i < xs.length := by omega
    exact ⟨xs, xs[i], sqT_same s hs, List.getElem?_eq_getElem this⟩
  · obtain ⟨rfl, y⟩ := y
    have hx := y xs (sqT_same s hs)
    obtain ⟨d', hd', hv⟩ := dpAll_get ha hx
    rw [hd] at hd'
    cases hd'
    exact ⟨Same.refl _, fun N hN s2 => dp_same s2 _ _ hv⟩
theorem itd_rng (G : Hp) (lo : Int) (n : Nat) : ItD K (Itr lo n) G ((List.range n).map fun (i : Nat) => PyData.int (lo + (i : Int))) := by
  refine ⟨fun i H' s hi => ?_, fun i H' s hi => ?_, fun i H' x H'' d s hd y => ?_⟩
  · rw [List.length_map, List.length_range] at hi
    exact hi
  · rw [List.length_map, List.length_range] at hi
    exact hi
  · obtain ⟨rfl, rfl⟩ := y
    refine ⟨Same.refl _, fun N hN s2 => ?_⟩
    rw [List.getElem?_map] at hd
    cases q : (List.range n)[i]? with
    | none => rw [q] at hd; cases hd
    | some j =>
      rw [q] at hd
      have e := List.getElem?_eq_some_iff.mp q
      obtain ⟨e1, e2⟩ := e
      rw [List.getElem_range] at e2
      subst e2
      cases hd
      exact .int _
theorem pui_rng1 {n : Int} (h : PuE K te ρ (.int n)) (h0 : -(2 ^ 62) ≤ n) (h1 : n < 2 ^ 62) : PuI K (iRng1 (tCons te tNil)) ρ ((List.range n.toNat).map fun (i : Nat) => PyData.int (0 + (i : Int))) := fun M σ H hid en R r => h M σ H hid en _ fun v H1 e1 hv =>
  ⟨n, by rw [dp_intI hv], h0, h1, r _ H1 e1 (itd_rng _ 0 _)⟩
theorem pui_rng2 {m n : Int} (h : PuE K ta ρ (.int m)) (k : PuE K tb ρ (.int n)) (b : -(2 ^ 62) ≤ m ∧ m < 2 ^ 62 ∧ -(2 ^ 62) ≤ n ∧ n < 2 ^ 62) : PuI K (iRng2 (tCons ta (tCons tb tNil))) ρ ((List.range (n - m).toNat).map fun (i : Nat) => PyData.int (m + (i : Int))) := fun M σ H hid en R r => h M σ H hid en _ fun v H1 e1 hv => k M σ H1 (hid.same e1) (en.same (vis_same e1)) _ fun u H2 e2 hu =>
  ⟨m, n, by rw [dp_intI hv, dp_intI hu], b, r _ H2 (e1.trans e2) (itd_rng _ m _)⟩
theorem pui_zip (h : PuE K ta ρ (.list ds)) (k : PuE K tb ρ (.list es)) : PuI K (iZip K (tCons ta (tCons tb tNil))) ρ ((ds.zip es).map fun p => PyData.tuple [p.1, p.2]) := fun M σ H hid en R r => h M σ H hid en _ fun v H1 e1 hv => k M σ H1 (hid.same e1) (en.same (vis_same e1)) _ fun u H2 e2 hu => by
  obtain ⟨a, xs, rfl, hs, ha⟩ := dp_lstI (dp_same (vis_same e2) _ _ hv)
  obtain ⟨b, ys, rfl, ks, kb⟩ := dp_lstI hu
  have hl := dpAll_len ha
  have kl := dpAll_len kb
  refine ⟨a, b, xs, ys, rfl, vis_sub.seq hs, vis_sub.seq ks, r _ H2 (e1.trans e2) ⟨fun i H' s hi => ?_, fun i H' s hi => ⟨xs, ys, s.seq hs, s.seq ks, ?_⟩, fun i H' x H'' d s hd y => ?_⟩⟩
  · rw [List.length_map, List.length_zip] at hi
    have i1 : i < xs.length := by omega
    have i2 : i < ys.length := by omega
    exact ⟨xs, ys, xs[i], ys[i], s.seq hs, s.seq ks, List.getElem?_eq_getElem i1, List.getElem?_eq_getElem i2⟩
  · rw [List.length_map, List.length_zip] at hi
    omega
  · obtain ⟨T, x1, y1, rfl, nT, rfl, q1, q2⟩ := y
    have p1 := q1 xs (s.seq hs)
    have p2 := q2 ys (s.seq ks)
    obtain ⟨d1, hd1, hv1⟩ := dpAll_get ha p1
    obtain ⟨d2, hd2, hv2⟩ := dpAll_get kb p2
    refine ⟨same_new nT _, fun N hN s2 => ?_⟩
    have ed : d = .tuple [d1, d2] := by
      rw [List.getElem?_map, List.getElem?_zip_eq_some.mpr (show ds[i]? = some (d1, d2).1 ∧ es[i]? = some (d1, d2).2 from ⟨hd1, hd2⟩)] at hd
      exact (Option.some.inj hd).symm
    subst ed
    have up := vis_same (M := N) (same_new nT (HO.tup [x1, y1]))
    exact .tup (SqT.of (vis_new hN nT)) (.cons (dp_same (s2.trans up) _ _ hv1) (.cons (dp_same (s2.trans up) _ _ hv2) .nil))
/-! ### targets -/
theorem wipe_set1 (σ : L2.St) (j : Nat) (x : Option V) : wipe (σ.set j x) [j] = wipe σ [j] := by
  show (σ.set j x).set j none = σ.set j none
  rw [List.set_set]
theorem pug_name (j : Nat) : PuG K (gName j) [j] ρ d (ρ.set j (some d)) := fun M σ H v en hd R r => r _ (en.put hd j) (wipe_set1 _ _ _)
theorem wipe_set2 (σ : L2.St) (j k : Nat) (x y : Option V) : wipe ((σ.set j x).set k y) [j, k] = wipe σ [j, k] := by
  show (((σ.set j x).set k y).set k none).set j none = (σ.set k none).set j none
  apply List.ext_getElem?
  intro i
  simp only [List.getElem?_set, List.length_set]
  by_cases a : j = i <;> by_cases b : k = i <;> simp [a, b]
theorem pug_two (j k : Nat) : PuG K (gTup K 2 (gCons (gName j) (gCons (gName k) gNil))) [j, k] ρ (.tuple [d, e]) ((ρ.set j (some d)).set k (some e)) := fun M σ H v en hd R r => by
  obtain ⟨a, xs, rfl, hs, ha⟩ := dp_tupI hd
  cases ha with
  | cons h1 ha =>
    cases ha with
    | cons h2 ha =>
      cases ha
      exact ⟨a, _, rfl, sqT_same vis_sub hs, rfl, _, _, rfl, _, _, rfl, rfl, r _ ((en.put h1 j).put h2 k) (wipe_set2 _ _ _ _ _)⟩
theorem wipe_set3 (σ : L2.St) (j k l : Nat) (x y z : Option V) : wipe (((σ.set j x).set k y).set l z) [j, k, l] = wipe σ [j, k, l] := by
  show (((((σ.set j x).set k y).set l z).set l none).set k none).set j none = ((σ.set l none).set k none).set j none
  apply List.ext_getElem?
  intro i
  simp only [List.getElem?_set, List.length_set]
  by_cases a : j = i <;> by_cases b : k = i <;> by_cases c : l = i <;> simp [a, b, c]
theorem pug_three {f : PyData} (j k l : Nat) : PuG K (gTup K 3 (gCons (gName j) (gCons (gName k) (gCons (gName l) gNil)))) [j, k, l] ρ (.tuple [d, e, f]) (((ρ.set j (some d)).set k (some e)).set l (some f)) := fun M σ H v en hd R r => by
  obtain ⟨a, xs, rfl, hs, ha⟩ := dp_tupI hd
  cases ha with
  | cons h1 ha =>
    cases ha with
    | cons h2 ha =>
      cases ha with
      | cons h3 ha =>
        cases ha
        exact ⟨a, _, rfl, sqT_same vis_sub hs, rfl, _, _, rfl, _, _, rfl, _, _, rfl, rfl, r _ (((en.put h1 j).put h2 k).put h3 l) (wipe_set3 _ _ _ _ _ _ _)⟩
/-! ### comprehensions -/
theorem vis_or_same {M : Addr → Bool} {D : Addr} {H : Hp} : Same (vis (fun b => M b || b == D) H) (vis M H) := fun b u h => by
  unfold vis at h ⊢
  split at h
  · cases h
  · rename_i c
    rw [Bool.or_eq_true, not_or] at c
    rw [if_neg c.1]
    exact h
theorem vis_upd {M : Addr → Bool} {D : Addr} {H : Hp} {o : HO} (h : M D = true) : vis M (upd H D o) = vis M H := by
  funext b
  unfold vis
  by_cases e : b = D
  · rw [e, h, if_pos rfl, if_pos rfl]
  · rw [upd_ne e]
theorem hid_or {M : Addr → Bool} {D : Addr} {H : Hp} {xs : List V} (h : Hid M H) (hD : H D = some (.lst xs)) : Hid (fun b => M b || b == D) H := fun p c => by
  rcases (Bool.or_eq_true _ _).mp c with c | c
  · exact h p c
  · exact .inl ⟨xs, by rw [eq_of_beq c]; exact hD⟩
theorem same_vis_or {M : Addr → Bool} {D : Addr} {H H' : Hp} (n : H D = none) (e : Same H H') : Same (vis M H) (vis (fun b => M b || b == D) H') := fun b u h => by
  have hb := vis_sub b u h
  have ne : (b == D) = false := beq_eq_false_iff_ne.mpr fun z => by rw [z, n] at hb; cases hb
  unfold vis at h ⊢
  split at h
  · cases h
  · rename_i c
    have c2 : ¬ (M b || b == D) = true := by rw [ne, Bool.or_false]; exact c
    show (if (M b || b == D) = true then none else H' b) = some u
    rw [if_neg c2]
    exact e b u h
theorem outs_take {α : Type} {xs : List α} {p : α → Bool} {f : α → PyData} {i : Nat} {x : α} (h : xs[i]? = some x) : ((xs.take (i + 1)).filter p).map f = ((xs.take i).filter p).map f ++ (if p x = true then [f x] else []) := by
  rw [List.take_succ, h, Option.toList_some, List.filter_append, List.map_append]
  cases c : p x with
  | true => rw [if_pos rfl, List.filter_cons_of_pos c]; rfl
  | false => rw [if_neg Bool.false_ne_true, List.filter_cons_of_neg (by rw [c]; exact Bool.false_ne_true)]; rfl
theorem pu_lc {α : Type} {xs : List α} {td : α → PyData} (hi : PuI K wi ρ (xs.map td)) (hl : xs.length ≤ 90000) (p : α → Bool) (f : α → PyData) (hb : ∀ x ∈ xs, ∃ ρ', PuG K g vs (wipeR ρ vs) (td x) ρ' ∧ PuT K tt ρ' (p x) ∧ (p x = true → PuE K te ρ' (f x))) (hw : ∀ σ : L2.St, wipe (wipe σ vs) vs = wipe σ vs) :
    PuE K (tLc wi g tt te vs) ρ (.list ((xs.filter p).map f)) := fun M σ H hid en Q q => hi M σ H hid en _ fun J H1 e1 it D nD => by
  have hid1 := hid.same e1
  have nM : M D = false := hid1.non nD
  generalize hM' : (fun b => M b || b == D) = M'
  have mD : M' D = true := by rw [← hM']; simp
  have fin : ∀ H acc, Same H1 H → H D = some (.lst acc) → DpAll K (vis M' H) acc ((xs.filter p).map f) → Q (.ref D) H := fun Hn acc s hD ha => by
    refine q (.ref D) Hn (e1.trans s) (.lst (SqL.of ?_) (dpAll_same (H := vis M' Hn) ?_ _ _ ha))
    · unfold vis
      rw [nM, if_neg Bool.false_ne_true]
      exact hD
    · rw [← hM']
      exact vis_or_same
  refine ⟨fun i m Hn => m = xs.length - i ∧ i ≤ xs.length ∧ Same H1 Hn ∧ ∃ acc, Hn D = some (.lst acc) ∧ acc.length ≤ i ∧ DpAll K (vis M' Hn) acc (((xs.take i).filter p).map f), ⟨_, rfl, Nat.zero_le _, same_new nD _, [], upd_same, Nat.le_refl _, ?_⟩, ?_⟩
  · rw [List.take_zero]
    exact .nil
  · rintro i m Hn ⟨rfl, ile, s, acc, hD, al, ha⟩
    have sv : Same (vis M H1) (vis M' Hn) := by
      rw [← hM']
      exact same_vis_or nD s
    have hidn : Hid M' Hn := by
      rw [← hM']
      exact hid_or (hid1.same s) hD
    by_cases c : i < xs.length
    · have hx : xs[i]? = some xs[i] := List.getElem?_eq_getElem c
      refine .inr ⟨it.go i Hn (sv.trans vis_sub) (by rw [List.length_map]; exact c), fun H' => Same H1 H' ∧ ∃ acc, H' D = some (.lst acc) ∧ acc.length ≤ i + 1 ∧ DpAll K (vis M' H') acc (((xs.take (i + 1)).filter p).map f), fun H' nx => ⟨_, by omega, rfl, c, nx⟩, fun x Hy y => ?_⟩
      obtain ⟨sy, dy⟩ := it.yl i Hn x Hy (td xs[i]) (sv.trans vis_sub) (by rw [List.getElem?_map, hx]; rfl) y
      have hdx := dy M' hidn sv
      obtain ⟨ρ', hg, ht, he⟩ := hb xs[i] (List.getElem_mem c)
      have en1 : EnvD K (vis M' Hy) (wipe σ vs) (wipeR ρ vs) := EnvD.wipe (en.same (((vis_same e1).trans sv).trans (vis_same sy))) vs
      refine hg M' (wipe σ vs) Hy x en1 hdx _ fun σ' en2 wq => ⟨wq.trans (hw σ), ?_⟩
      have hidy := hidn.same sy
      refine ht M' σ' Hy hidy en2 _ fun H3 e3 => ?_
      have s3 := sy.trans e3
      rw [outs_take (f := f) hx]
      cases b : p xs[i] with
      | false =>
        rw [if_neg Bool.false_ne_true, if_neg Bool.false_ne_true, List.append_nil]
        exact ⟨s.trans s3, acc, s3 _ _ hD, by omega, dpAll_same (vis_same s3) _ _ ha⟩
      | true =>
        rw [if_pos rfl, if_pos rfl]
        refine he b M' σ' H3 (hidy.same e3) (en2.same (vis_same e3)) _ fun u H4 e4 hu => ?_
        have s4 := s3.trans e4
        refine ⟨acc, s4 _ _ hD, sl1001 (by omega), same_upd (s.trans s4) nD, acc ++ [u], upd_same, by rw [List.length_append, List.length_singleton]; omega, ?_⟩
        rw [vis_upd mD]
        exact dpAll_app (dpAll_same (vis_same s4) _ _ ha) (.cons hu .nil)
    · have e : i = xs.length := by omega
      subst e
      rw [List.take_length] at ha
      exact .inl ⟨it.st _ Hn (sv.trans vis_sub) (by rw [List.length_map]; exact Nat.le_refl _), fin Hn acc s hD ha⟩
theorem wipe_one (σ : L2.St) (j : Nat) : wipe (wipe σ [j]) [j] = wipe σ [j] := by
  show (σ.set j none).set j none = σ.set j none
  rw [List.set_set]
theorem wipe_two (σ : L2.St) (j k : Nat) : wipe (wipe σ [j, k]) [j, k] = wipe σ [j, k] := by
  show (((σ.set k none).set j none).set k none).set j none = (σ.set k none).set j none
  apply List.ext_getElem?
  intro i
  simp only [List.getElem?_set, List.length_set]
  by_cases a : j = i <;> by_cases b : k = i <;> simp [a, b]
/-- one name, no test -/
theorem pu_map {α : Type} {xs : List α} {td : α → PyData} {j : Nat} (hi : PuI K wi ρ (xs.map td)) (hl : xs.length ≤ 90000) (f : α → PyData) (hb : ∀ x ∈ xs, PuE K te (ρ.set j (some (td x))) (f x)) :
    PuE K (tLc wi (gName j) tYes te [j]) ρ (.list (xs.map f)) := by
  have h := pu_lc (g := gName j) (vs := [j]) (tt := tYes) (te := te) hi hl (fun _ => true) f (fun x hx => ⟨_, pug_name j, pu_yes, fun _ => ?_⟩) (fun σ => wipe_one σ j)
  · rw [List.filter_eq_self.mpr fun _ _ => rfl] at h
    exact h
  · show PuE K te ((ρ.set j none).set j (some (td x))) (f x)
    rw [List.set_set]
    exact hb x hx
/-- one name and a test -/
theorem pu_fil {α : Type} {xs : List α} {td : α → PyData} {j : Nat} (hi : PuI K wi ρ (xs.map td)) (hl : xs.length ≤ 90000) (p : α → Bool) (f : α → PyData) (hb : ∀ x ∈ xs, PuT K tt (ρ.set j (some (td x))) (p x) ∧ (p x = true → PuE K te (ρ.set j (some (td x))) (f x))) :
    PuE K (tLc wi (gName j) tt te [j]) ρ (.list ((xs.filter p).map f)) := by
  refine pu_lc (g := gName j) (vs := [j]) (tt := tt) (te := te) hi hl p f (fun x hx => ⟨_, pug_name j, ?_⟩) (fun σ => wipe_one σ j)
  show PuT K tt ((ρ.set j none).set j (some (td x))) (p x) ∧ (p x = true → PuE K te ((ρ.set j none).set j (some (td x))) (f x))
  rw [List.set_set]
  exact hb x hx
/-- two names, no test -/
theorem pu_map2 {α : Type} {xs : List α} {td tf : α → PyData} {j k : Nat} (hi : PuI K wi ρ (xs.map fun x => .tuple [td x, tf x])) (hl : xs.length ≤ 90000) (f : α → PyData) (hb : ∀ x ∈ xs, PuE K te ((ρ.set j (some (td x))).set k (some (tf x))) (f x)) :
    PuE K (tLc wi (gTup K 2 (gCons (gName j) (gCons (gName k) gNil))) tYes te [j, k]) ρ (.list (xs.map f)) := by
  have h := pu_lc (g := gTup K 2 (gCons (gName j) (gCons (gName k) gNil))) (vs := [j, k]) (tt := tYes) (te := te) hi hl (fun _ => true) f (fun x hx => ⟨_, pug_two j k, pu_yes, fun _ => ?_⟩) (fun σ => wipe_two σ j k)
  · rw [List.filter_eq_self.mpr fun _ _ => rfl] at h
    exact h
  · show PuE K te (((((ρ.set k none).set j none).set j (some (td x)))).set k (some (tf x))) (f x)
    have e : ((((ρ.set k none).set j none).set j (some (td x)))).set k (some (tf x)) = (ρ.set j (some (td x))).set k (some (tf x)) := by
      apply List.ext_getElem?
      intro i
      simp only [List.getElem?_set, List.length_set]
      by_cases a : j = i <;> by_cases b : k = i <;> simp [a, b]
    rw [e]
    exact hb x hx
end
/-! ### statements -/
inductive Out where
  | rt (d : PyData)
  | nx (ρ : Rho)
  | ct (ρ : Rho)
  | bk (ρ : Rho)
def Post (K : PySem.W.Frag) (M : Addr → Bool) (H : Hp) (D : Ends) : Out → Prop
  | .rt d => ∀ v H', Same H H' → Dp K (vis M H') v d → D.rt v H'
  | .nx ρ => ∀ σ H', Same H H' → EnvD K (vis M H') σ ρ → D.nx σ H'
  | .ct ρ => ∀ σ H', Same H H' → EnvD K (vis M H') σ ρ → D.ct σ H'
  | .bk ρ => ∀ σ H', Same H H' → EnvD K (vis M H') σ ρ → D.bk σ H'
def PuS (K : PySem.W.Frag) (t : TS) (ρ : Rho) (o : Out) : Prop := ∀ (M : Addr → Bool) σ H, Hid M H → EnvD K (vis M H) σ ρ → ∀ D, Post K M H D o → t D σ H
theorem Post.same {K : PySem.W.Frag} {M : Addr → Bool} {H H' : Hp} {D : Ends} {o : Out} (h : Post K M H D o) (e : Same H H') : Post K M H' D o := by
  cases o with
  | rt d => exact fun v H2 e2 hv => h v H2 (e.trans e2) hv
  | nx ρ => exact fun v H2 e2 hv => h v H2 (e.trans e2) hv
  | ct ρ => exact fun v H2 e2 hv => h v H2 (e.trans e2) hv
  | bk ρ => exact fun v H2 e2 hv => h v H2 (e.trans e2) hv
section
variable {K : PySem.W.Frag} {ρ ρ' ρ'' : Rho} {te ta tb tc : TE} {tA : TA} {tt : TT} {d e : PyData} {ds es : List PyData} {wi : TI} {g : TG} {vs : List Nat} {t u : TS} {o : Out}
theorem PuS.cast {o' : Out} (h : PuS K t ρ o) (e : o = o') : PuS K t ρ o' := e ▸ h
theorem pus_ret (h : PuE K te ρ d) : PuS K (tRet te) ρ (.rt d) := fun M σ H hid en D q => h M σ H hid en _ q
theorem pus_retN : PuS K tRetN ρ (.rt .none) := fun M σ H hid en D q => q _ H (Same.refl _) .non
theorem pus_next : PuS K tNext ρ (.nx ρ) := fun M σ H hid en D q => q σ H (Same.refl _) en
theorem pus_cont : PuS K tCont ρ (.ct ρ) := fun M σ H hid en D q => q σ H (Same.refl _) en
theorem pus_drop (h : PuE K te ρ d) : PuS K (tDrop te) ρ (.nx ρ) := fun M σ H hid en D q => h M σ H hid en _ fun v H1 e1 _ => q σ H1 e1 (en.same (vis_same e1))
theorem pus_seq (h : PuS K t ρ (.nx ρ')) (k : PuS K u ρ' o) : PuS K (tSeq t u) ρ o := fun M σ H hid en D q =>
  h M σ H hid en _ fun σ1 H1 e1 en1 => k M σ1 H1 (hid.same e1) en1 D (q.same e1)
/-- what ends early -/
theorem pus_early (h : PuS K t ρ o) (n : ∀ ρ', o ≠ .nx ρ') : PuS K (tSeq t u) ρ o := fun M σ H hid en D q => h M σ H hid en _ (by
  cases o with
  | rt d => exact q
  | nx ρ => exact absurd rfl (n ρ)
  | ct ρ => exact q
  | bk ρ => exact q)
theorem pus_if {b : Bool} (h : PuT K tt ρ b) (k : b = true → PuS K t ρ o) (k' : b = false → PuS K u ρ o) : PuS K (tIfS tt t u) ρ o := fun M σ H hid en D q => h M σ H hid en _ fun H1 e1 => by
  cases b with
  | true => exact iteT (k rfl M σ H1 (hid.same e1) (en.same (vis_same e1)) D (q.same e1))
  | false => exact iteF (k' rfl M σ H1 (hid.same e1) (en.same (vis_same e1)) D (q.same e1))
/-- an if that returns, and what stands behind it -/
theorem pus_ifr {b : Bool} (h : PuT K tt ρ b) (k : b = true → ∃ e, o = .rt e ∧ PuS K t ρ (.rt e)) (k' : b = false → PuS K u ρ o) : PuS K (tSeq (tIfS tt t tNext) u) ρ o := by
  cases b with
  | true =>
    obtain ⟨e, rfl, h2⟩ := k rfl
    exact pus_early (pus_if h (fun _ => h2) (fun z => nomatch z)) (fun _ z => nomatch z)
  | false => exact pus_seq (pus_if h (fun z => nomatch z) (fun _ => pus_next)) (k' rfl)
theorem pus_skip (h : PuT K tt ρ false) (k : PuS K u ρ o) : PuS K (tSeq (tIfS tt t tNext) u) ρ o := pus_ifr h (fun z => nomatch z) fun _ => k
theorem pus_take (h : PuT K tt ρ true) (k : PuS K t ρ (.rt d)) : PuS K (tSeq (tIfS tt t tNext) u) ρ (.rt d) := pus_ifr h (fun _ => ⟨d, rfl, k⟩) fun z => nomatch z
theorem pu_eqS1 {i j : Str} (h1 : PuE K ta ρ (.str i)) (h2 : PuE K tb ρ (.str j)) (e : i = j) : PuT K (tTest (tOp rEq ta tb)) ρ true := pu_tTest ((pu_eqS h1 h2).cast (by rw [decide_eq_true e]))
theorem pu_eqS0 {i j : Str} (h1 : PuE K ta ρ (.str i)) (h2 : PuE K tb ρ (.str j)) (e : ¬ i = j) : PuT K (tTest (tOp rEq ta tb)) ρ false := pu_tTest ((pu_eqS h1 h2).cast (by rw [decide_eq_false e]))
theorem pus_set1 {i : Nat} (h : PuE K te ρ d) : PuS K (tAsg te (gName i)) ρ (.nx (ρ.set i (some d))) := fun M σ H hid en D q => h M σ H hid en _ fun v H1 e1 hv => q _ H1 e1 ((en.same (vis_same e1)).put hv i)
theorem pus_asg1 (h : PuE K te ρ d) (hg : PuG K g vs ρ d ρ') : PuS K (tAsg te g) ρ (.nx ρ') := fun M σ H hid en D q => h M σ H hid en _ fun v H1 e1 hv => hg M σ H1 v (en.same (vis_same e1)) hv _ fun σ' en' _ => q _ H1 e1 en'
theorem pus_set {i : Nat} (h : PuE K te ρ d) (k : PuS K u (ρ.set i (some d)) o) : PuS K (tSeq (tAsg te (gName i)) u) ρ o := pus_seq (ρ' := ρ.set i (some d)) (fun M σ H hid en D q => h M σ H hid en _ fun v H1 e1 hv => q _ H1 e1 ((en.same (vis_same e1)).put hv i)) k
theorem pus_asg (h : PuE K te ρ d) (hg : PuG K g vs ρ d ρ') (k : PuS K u ρ' o) : PuS K (tSeq (tAsg te g) u) ρ o := pus_seq (ρ' := ρ') (fun M σ H hid en D q => h M σ H hid en _ fun v H1 e1 hv => hg M σ H1 v (en.same (vis_same e1)) hv _ fun σ' en' _ => q _ H1 e1 en') k
/-- a loop that changes no slot but by F, to its end -/
theorem pus_for {α : Type} {xs : List α} {td : α → PyData} {tb : TS} (F : Nat → Rho) (hi : PuI K wi ρ (xs.map td)) (h0 : ρ = F 0)
    (hb : ∀ i x, xs[i]? = some x → ∃ ρ1, PuG K g vs (F i) (td x) ρ1 ∧ (PuS K tb ρ1 (.nx (F (i + 1))) ∨ PuS K tb ρ1 (.ct (F (i + 1))))) : PuS K (tFor wi g tb) ρ (.nx (F xs.length)) := fun M σ H hid en D q => hi M σ H hid en _ fun J H1 e1 it => by
  subst h0
  refine ⟨fun i m σ' Hn => m = xs.length - i ∧ i ≤ xs.length ∧ Same H1 Hn ∧ EnvD K (vis M Hn) σ' (F i), ⟨_, rfl, Nat.zero_le _, Same.refl _, en.same (vis_same e1)⟩, ?_⟩
  rintro i m σ' Hn ⟨rfl, ile, s, en'⟩
  by_cases c : i < xs.length
  · have hx : xs[i]? = some xs[i] := List.getElem?_eq_getElem c
    refine .inr ⟨it.go i Hn (vis_sub.trans s) (by rw [List.length_map]; exact c), fun σ'' H' => Same H1 H' ∧ EnvD K (vis M H') σ'' (F (i + 1)), fun σ'' H' nx => ⟨_, by omega, rfl, c, nx⟩, fun x Hy y => ?_⟩
    obtain ⟨sy, dy⟩ := it.yl i Hn x Hy (td xs[i]) (vis_sub.trans s) (by rw [List.getElem?_map, hx]; rfl) y
    have hidn := (hid.same e1).same s
    have hdx := dy M hidn (vis_same s)
    obtain ⟨ρ1, hg, ht⟩ := hb i xs[i] hx
    refine hg M σ' Hy x (en'.same (vis_same sy)) hdx _ fun σ2 en2 _ => ?_
    rcases ht with ht | ht
    · exact ht M σ2 Hy (hidn.same sy) en2 _ fun σ3 H3 e3 en3 => ⟨s.trans (sy.trans e3), en3⟩
    · exact ht M σ2 Hy (hidn.same sy) en2 _ fun σ3 H3 e3 en3 => ⟨s.trans (sy.trans e3), en3⟩
  · have e : i = xs.length := by omega
    subst e
    exact .inl ⟨it.st _ Hn (vis_sub.trans s) (by rw [List.length_map]; exact Nat.le_refl _), q σ' Hn (e1.trans s) en'⟩
/-- a loop whose turn k returns -/
theorem pus_forR {α : Type} {xs : List α} {td : α → PyData} {tb : TS} {k : Nat} (F : Nat → Rho) (hi : PuI K wi ρ (xs.map td)) (h0 : ρ = F 0) (hk : k < xs.length)
    (hb : ∀ i x, i < k → xs[i]? = some x → ∃ ρ1, PuG K g vs (F i) (td x) ρ1 ∧ (PuS K tb ρ1 (.nx (F (i + 1))) ∨ PuS K tb ρ1 (.ct (F (i + 1)))))
    (hr : ∀ x, xs[k]? = some x → ∃ ρ1, PuG K g vs (F k) (td x) ρ1 ∧ PuS K tb ρ1 (.rt d)) : PuS K (tFor wi g tb) ρ (.rt d) := fun M σ H hid en D q => hi M σ H hid en _ fun J H1 e1 it => by
  subst h0
  refine ⟨fun i m σ' Hn => m = xs.length - i ∧ i ≤ k ∧ Same H1 Hn ∧ EnvD K (vis M Hn) σ' (F i), ⟨_, rfl, Nat.zero_le _, Same.refl _, en.same (vis_same e1)⟩, ?_⟩
  rintro i m σ' Hn ⟨rfl, ile, s, en'⟩
  have c : i < xs.length := by omega
  have hx : xs[i]? = some xs[i] := List.getElem?_eq_getElem c
  refine .inr ⟨it.go i Hn (vis_sub.trans s) (by rw [List.length_map]; exact c), fun σ'' H' => i + 1 ≤ k ∧ Same H1 H' ∧ EnvD K (vis M H') σ'' (F (i + 1)), fun σ'' H' nx => ⟨_, by omega, rfl, nx⟩, fun x Hy y => ?_⟩
  obtain ⟨sy, dy⟩ := it.yl i Hn x Hy (td xs[i]) (vis_sub.trans s) (by rw [List.getElem?_map, hx]; rfl) y
  have hidn := (hid.same e1).same s
  have hdx := dy M hidn (vis_same s)
  by_cases ik : i < k
  · obtain ⟨ρ1, hg, ht⟩ := hb i xs[i] ik hx
    refine hg M σ' Hy x (en'.same (vis_same sy)) hdx _ fun σ2 en2 _ => ?_
    rcases ht with ht | ht
    · exact ht M σ2 Hy (hidn.same sy) en2 _ fun σ3 H3 e3 en3 => ⟨ik, s.trans (sy.trans e3), en3⟩
    · exact ht M σ2 Hy (hidn.same sy) en2 _ fun σ3 H3 e3 en3 => ⟨ik, s.trans (sy.trans e3), en3⟩
  · have e : i = k := by omega
    subst e
    obtain ⟨ρ1, hg, ht⟩ := hr xs[i] hx
    refine hg M σ' Hy x (en'.same (vis_same sy)) hdx _ fun σ2 en2 _ => ?_
    exact ht M σ2 Hy (hidn.same sy) en2 _ fun v H3 e3 hv => q v H3 (e1.trans (s.trans (sy.trans e3))) hv
end
end Lm
set_option Elab.async false
set_option linter.all false
set_option maxRecDepth 100000
set_option maxHeartbeats 400000
/-! readings of defs that grow lists of their own -/
namespace Lm
open PySem PySem.Spec PyProof.Rows L2
/-- a slot: data, or a list of the def's own -/
inductive Ent where
  | d (x : PyData)
  | o (ds : List PyData)
abbrev RhoO := List (Option Ent)
def Ent.seen : Ent → PyData
  | .d x => x
  | .o ds => .list ds
def Ent.hide : Ent → Option PyData
  | .d x => some x
  | .o _ => none
/-- the slots, own lists seen as data -/
def seen (ρ : RhoO) : Rho := ρ.map (·.map Ent.seen)
/-- .. and hidden -/
def hidn (ρ : RhoO) : Rho := ρ.map (·.bind Ent.hide)
structure EnvM (K : PySem.W.Frag) (M M' : Addr → Bool) (H0 H : Hp) (σ : L2.St) (ρ : RhoO) : Prop where
  le : ∀ b, M b = true → M' b = true
  hid : Hid M' H
  same : Same H0 H
  len : σ.length = ρ.length
  new : ∀ b, M' b = true → M b = true ∨ H0 b = none
  dat : ∀ (i : Nat) (x : PyData), ρ[i]? = some (some (.d x)) → ∃ v, σ[i]? = some (some v) ∧ Dp K (vis M' H) v x
  own : ∀ (i : Nat) (ds : List PyData), ρ[i]? = some (some (.o ds)) → ∃ p vs, σ[i]? = some (some (.ref p)) ∧ H p = some (.lst vs) ∧ M' p = true ∧ M p = false ∧ H0 p = none ∧ DpAll K (vis M' H) vs ds
  dif : ∀ (i j : Nat) (ds es : List PyData) (p : Addr), i ≠ j → ρ[i]? = some (some (.o ds)) → ρ[j]? = some (some (.o es)) → σ[i]? = some (some (.ref p)) → σ[j]? = some (some (.ref p)) → False
def EnvO (K : PySem.W.Frag) (M : Addr → Bool) (H0 H : Hp) (σ : L2.St) (ρ : RhoO) : Prop := ∃ M', EnvM K M M' H0 H σ ρ
section
variable {K : PySem.W.Frag} {M M' : Addr → Bool} {H0 H H' : Hp} {σ : L2.St} {ρ : RhoO} {v : V} {x : PyData}
theorem vis_le (h : ∀ b, M b = true → M' b = true) : Same (vis M' H) (vis M H) := fun b u q => by
  unfold vis at q ⊢
  split at q
  · cases q
  · rename_i c
    rw [if_neg fun z => c (h b z)]
    exact q
theorem EnvM.hidM (h : EnvM K M M' H0 H σ ρ) : Hid M H := fun p c => h.hid p (h.le p c)
theorem EnvM.next (h : EnvM K M M' H0 H σ ρ) (e : Same H H') : EnvM K M M' H0 H' σ ρ :=
  ⟨h.le, h.hid.same e, h.same.trans e, h.len, h.new, fun i x q => (h.dat i x q).imp fun v p => ⟨p.1, dp_same (vis_same e) _ _ p.2⟩,
   fun i ds q => by
    obtain ⟨p, vs, a, b, c, d, f, g⟩ := h.own i ds q
    exact ⟨p, vs, a, e _ _ b, c, d, f, dpAll_same (vis_same e) _ _ g⟩, h.dif⟩
theorem EnvM.hidn (h : EnvM K M M' H0 H σ ρ) : EnvD K (vis M' H) σ (hidn ρ) := by
  refine ⟨by rw [h.len]; unfold Lm.hidn; rw [List.length_map], fun i d q => ?_⟩
  unfold Lm.hidn at q
  rw [List.getElem?_map] at q
  cases e : ρ[i]? with
  | none => rw [e] at q; cases q
  | some y =>
    rw [e] at q
    cases y with
    | none => cases q
    | some y =>
      cases y with
      | d x => cases q; exact h.dat i _ e
      | o ds => cases q
theorem EnvM.seen (h : EnvM K M M' H0 H σ ρ) : EnvD K (vis M H) σ (seen ρ) := by
  refine ⟨by rw [h.len]; unfold Lm.seen; rw [List.length_map], fun i d q => ?_⟩
  unfold Lm.seen at q
  rw [List.getElem?_map] at q
  cases e : ρ[i]? with
  | none => rw [e] at q; cases q
  | some y =>
    rw [e] at q
    cases y with
    | none => cases q
    | some y =>
      cases y with
      | d x => cases q; exact (h.dat i _ e).imp fun v p => ⟨p.1, dp_same (vis_le h.le) _ _ p.2⟩
      | o ds =>
        cases q
        obtain ⟨p, vs, a, b, c, d, f, g⟩ := h.own i ds e
        refine ⟨_, a, .lst (SqL.of ?_) (dpAll_same (vis_le h.le) _ _ g)⟩
        unfold vis
        rw [d, if_neg Bool.false_ne_true]
        exact b
theorem getset {α : Type} {l : List α} {i j : Nat} {a b : α} (h : (l.set i a)[j]? = some b) : (i = j ∧ i < l.length ∧ a = b) ∨ (i ≠ j ∧ l[j]? = some b) := by
  by_cases c : i = j
  · subst c
    by_cases d : i < l.length
    · rw [List.getElem?_set_self d] at h
      exact .inl ⟨rfl, d, Option.some.inj h⟩
    · rw [List.getElem?_eq_none (by rw [List.length_set]; omega)] at h
      cases h
  · rw [List.getElem?_set_ne c] at h
    exact .inr ⟨c, h⟩
theorem EnvM.put (h : EnvM K M M' H0 H σ ρ) (hd : Dp K (vis M' H) v x) (i : Nat) : EnvM K M M' H0 H (σ.set i (some v)) (ρ.set i (some (.d x))) := by
  refine ⟨h.le, h.hid, h.same, by rw [List.length_set, List.length_set, h.len], h.new, fun j y q => ?_, fun j ds q => ?_, fun j k ds es p n q1 q2 s1 s2 => ?_⟩
  · rcases getset q with ⟨rfl, l, e⟩ | ⟨c, q⟩
    · cases e
      exact ⟨v, List.getElem?_set_self (by rw [h.len]; exact l), hd⟩
    · obtain ⟨u, a, b⟩ := h.dat j y q
      exact ⟨u, by rw [List.getElem?_set_ne c]; exact a, b⟩
  · rcases getset q with ⟨rfl, l, e⟩ | ⟨c, q⟩
    · cases e
    · obtain ⟨p, vs, a, b⟩ := h.own j ds q
      exact ⟨p, vs, by rw [List.getElem?_set_ne c]; exact a, b⟩
  · rcases getset q1 with ⟨rfl, l, e⟩ | ⟨c, q1⟩
    · cases e
    rcases getset q2 with ⟨rfl, l, e⟩ | ⟨c2, q2⟩
    · cases e
    rw [List.getElem?_set_ne c] at s1
    rw [List.getElem?_set_ne c2] at s2
    exact h.dif j k ds es p n q1 q2 s1 s2
/-- a new list of the def's own -/
theorem EnvM.lay {p : Addr} {vs : List V} {ds : List PyData} (h : EnvM K M M' H0 H σ ρ) (np : H p = none) (ha : DpAll K (vis M' H) vs ds) (i : Nat) : EnvO K M H0 (upd H p (.lst vs)) (σ.set i (some (.ref p))) (ρ.set i (some (.o ds))) := by
  have n0 : H0 p = none := by
    cases e : H0 p with
    | none => rfl
    | some u => rw [h.same _ _ e] at np; cases np
  have nM' : M' p = false := h.hid.non np
  have nM : M p = false := by
    cases e : M p with
    | false => rfl
    | true => rw [h.le p e] at nM'; cases nM'
  have sn := same_new np (HO.lst vs)
  have sv : Same (vis M' H) (vis (fun b => M' b || b == p) (upd H p (.lst vs))) := same_vis_or np sn
  refine ⟨fun b => M' b || b == p, fun b z => by rw [h.le b z]; rfl, hid_or (h.hid.same sn) upd_same, h.same.trans sn, by rw [List.length_set, List.length_set, h.len], fun b z => ?_, fun j y q => ?_, fun j es q => ?_, fun j k es fs q n q1 q2 s1 s2 => ?_⟩
  · rcases (Bool.or_eq_true _ _).mp z with z | z
    · exact h.new b z
    · rw [eq_of_beq z]; exact .inr n0
  · rcases getset q with ⟨rfl, l, e⟩ | ⟨c, q⟩
    · cases e
    · obtain ⟨u, a, b⟩ := h.dat j y q
      exact ⟨u, by rw [List.getElem?_set_ne c]; exact a, dp_same sv _ _ b⟩
  · rcases getset q with ⟨rfl, l, e⟩ | ⟨c, q⟩
    · cases e
      exact ⟨p, vs, List.getElem?_set_self (by rw [h.len]; exact l), upd_same, by simp, nM, n0, dpAll_same sv _ _ ha⟩
    · obtain ⟨r, ws, a, b, c1, c2, c3, c4⟩ := h.own j es q
      exact ⟨r, ws, by rw [List.getElem?_set_ne c]; exact a, sn _ _ b, by rw [c1]; rfl, c2, c3, dpAll_same sv _ _ c4⟩
  · have fresh : ∀ (j : Nat) (es : List PyData), ρ[j]? = some (some (.o es)) → σ[j]? = some (some (.ref p)) → False := fun j es q s => by
      obtain ⟨r, ws, a, b, _⟩ := h.own j es q
      rw [s] at a
      cases a
      rw [np] at b
      cases b
    rcases getset q1 with ⟨rfl, l, e⟩ | ⟨c, q1⟩
    · rw [List.getElem?_set_self (by rw [h.len]; exact l)] at s1
      cases s1
      rcases getset q2 with ⟨z, _⟩ | ⟨c2, q2⟩
      · exact n z
      · rw [List.getElem?_set_ne c2] at s2
        exact fresh k fs q2 s2
    · rw [List.getElem?_set_ne c] at s1
      rcases getset q2 with ⟨rfl, l, e⟩ | ⟨c2, q2⟩
      · rw [List.getElem?_set_self (by rw [h.len]; exact l)] at s2
        cases s2
        exact fresh j es q1 s1
      · rw [List.getElem?_set_ne c2] at s2
        exact h.dif j k es fs q n q1 q2 s1 s2
/-- an own list is written -/
theorem EnvM.write {p : Addr} {vs : List V} {ds es : List PyData} {i : Nat} (h : EnvM K M M' H0 H σ ρ) (hi : ρ[i]? = some (some (.o ds))) (hp : σ[i]? = some (some (.ref p))) (ha : DpAll K (vis M' H) vs es) : EnvM K M M' H0 (upd H p (.lst vs)) σ (ρ.set i (some (.o es))) := by
  obtain ⟨r, ws, a, b, c1, c2, c3, c4⟩ := h.own i ds hi
  rw [hp] at a
  cases a
  have ve : vis M' (upd H p (.lst vs)) = vis M' H := vis_upd c1
  have il : i < σ.length := (List.getElem?_eq_some_iff.mp hp).1
  refine ⟨h.le, fun q c => ?_, fun q u z => ?_, by rw [List.length_set, h.len], h.new, fun j y q => ?_, fun j fs q => ?_, fun j k fs gs q n q1 q2 s1 s2 => ?_⟩
  · by_cases e : q = p
    · rw [e]; exact .inl ⟨vs, upd_same⟩
    · rw [upd_ne e]; exact h.hid q c
  · rw [upd_ne fun e => by rw [e, c3] at z; cases z]
    exact h.same _ _ z
  · rw [ve]
    rcases getset q with ⟨rfl, l, e⟩ | ⟨c, q⟩
    · cases e
    · exact h.dat j y q
  · rw [ve]
    rcases getset q with ⟨rfl, l, e⟩ | ⟨c, q⟩
    · cases e
      exact ⟨p, vs, hp, upd_same, c1, c2, c3, ha⟩
    · obtain ⟨r, us, a, b', d1, d2, d3, d4⟩ := h.own j fs q
      have ne : r ≠ p := fun e => h.dif i j ds fs p c hi q hp (e ▸ a)
      exact ⟨r, us, a, by rw [upd_ne ne]; exact b', d1, d2, d3, d4⟩
  · have old : ∀ (j : Nat) (es' : List PyData), (ρ.set i (some (.o es)))[j]? = some (some (.o es')) → ∃ ds', ρ[j]? = some (some (.o ds')) := fun j es' z => by
      rcases getset z with ⟨rfl, l, e⟩ | ⟨c, z⟩
      · exact ⟨_, hi⟩
      · exact ⟨_, z⟩
    obtain ⟨x1, z1⟩ := old j fs q1
    obtain ⟨x2, z2⟩ := old k gs q2
    exact h.dif j k x1 x2 q n z1 z2 s1 s2
/-- an own list is data from now on -/
theorem EnvM.freeze {ds : List PyData} {i : Nat} (h : EnvM K M M' H0 H σ ρ) (hi : ρ[i]? = some (some (.o ds))) : EnvO K M H0 H σ (ρ.set i (some (.d (.list ds)))) := by
  obtain ⟨p, ws, a, b, c1, c2, c3, c4⟩ := h.own i ds hi
  have le : ∀ q, (M' q && !(q == p)) = true → M' q = true := fun q z => ((Bool.and_eq_true _ _).mp z).1
  have sv : Same (vis M' H) (vis (fun q => M' q && !(q == p)) H) := vis_le le
  refine ⟨fun q => M' q && !(q == p), fun q z => ?_, fun q z => h.hid q (le q z), h.same, by rw [List.length_set, h.len], fun q z => h.new q (le q z), fun j y q => ?_, fun j fs q => ?_, fun j k fs gs q n q1 q2 s1 s2 => ?_⟩
  · have ne : (q == p) = false := beq_eq_false_iff_ne.mpr fun e => by rw [e, c2] at z; cases z
    rw [h.le q z, ne]
    rfl
  · rcases getset q with ⟨rfl, l, e⟩ | ⟨c, q⟩
    · cases e
      refine ⟨_, a, .lst (SqL.of ?_) (dpAll_same sv _ _ c4)⟩
      unfold vis
      have : ¬ (M' p && !(p == p)) = true := by simp
      rw [if_neg this]
      exact b
    · obtain ⟨u, a', b'⟩ := h.dat j y q
      exact ⟨u, a', dp_same sv _ _ b'⟩
  · rcases getset q with ⟨rfl, l, e⟩ | ⟨c, q⟩
    · cases e
    · obtain ⟨r, us, a', b', d1, d2, d3, d4⟩ := h.own j fs q
      have ne : (r == p) = false := beq_eq_false_iff_ne.mpr fun e => h.dif i j ds fs p c hi q a (e ▸ a')
      exact ⟨r, us, a', b', by rw [d1, ne]; rfl, d2, d3, dpAll_same sv _ _ d4⟩
  · rcases getset q1 with ⟨rfl, l, e⟩ | ⟨c, q1⟩
    · cases e
    rcases getset q2 with ⟨rfl, l, e⟩ | ⟨c2, q2⟩
    · cases e
    exact h.dif j k fs gs q n q1 q2 s1 s2
/-- what is visible now is not written henceforth -/
theorem EnvM.base (h : EnvM K M M' H0 H σ ρ) : ∃ Hb, EnvM K M M' Hb H σ ρ ∧ Same H0 Hb ∧ (∀ b u, vis M' H b = some u → Hb b = some u) := by
  refine ⟨fun b => if (H0 b).isSome = true then H0 b else vis M' H b, ⟨h.le, h.hid, fun b u z => ?_, h.len, fun b z => ?_, h.dat, fun i ds q => ?_, h.dif⟩, fun b u z => ?_, fun b u z => ?_⟩
  · have z : (if (H0 b).isSome = true then H0 b else vis M' H b) = some u := z
    split at z
    · exact h.same _ _ z
    · exact vis_sub _ _ z
  · rcases h.new b z with n | n
    · exact .inl n
    · refine .inr ?_
      show (if (H0 b).isSome = true then H0 b else vis M' H b) = none
      rw [n]
      unfold vis
      rw [z]
      rfl
  · obtain ⟨p, vs, a, b, c, d, f, g⟩ := h.own i ds q
    refine ⟨p, vs, a, b, c, d, ?_, g⟩
    show (if (H0 p).isSome = true then H0 p else vis M' H p) = none
    rw [f]
    unfold vis
    rw [c]
    rfl
  · show (if (H0 b).isSome = true then H0 b else vis M' H b) = some u
    rw [z]
    rfl
  · show (if (H0 b).isSome = true then H0 b else vis M' H b) = some u
    split
    · rename_i c
      obtain ⟨w, e⟩ := Option.isSome_iff_exists.mp c
      have z2 := vis_sub b u z
      rw [h.same _ _ e] at z2
      rw [e]
      exact z2
    · exact z
end
inductive OutO where
  | rt (d : PyData)
  | ro (ds : List PyData)
  | nx (ρ : RhoO)
  | ct (ρ : RhoO)
  | bk (ρ : RhoO)
def PostO (K : PySem.W.Frag) (M : Addr → Bool) (H0 : Hp) (D : Ends) : OutO → Prop
  | .rt d => ∀ v H', Same H0 H' → Dp K (vis M H') v d → D.rt v H'
  | .ro ds => ∀ p xs H', Same H0 H' → H0 p = none → M p = false → H' p = some (.lst xs) → DpAll K (vis (fun b => M b || b == p) H') xs ds → D.rt (.ref p) H'
  | .nx ρ => ∀ σ H', EnvO K M H0 H' σ ρ → D.nx σ H'
  | .ct ρ => ∀ σ H', EnvO K M H0 H' σ ρ → D.ct σ H'
  | .bk ρ => ∀ σ H', EnvO K M H0 H' σ ρ → D.bk σ H'
def PuO (K : PySem.W.Frag) (t : TS) (ρ : RhoO) (o : OutO) : Prop := ∀ (M : Addr → Bool) H0 H σ, EnvO K M H0 H σ ρ → ∀ D, PostO K M H0 D o → t D σ H
/-- a target over slots of both kinds -/
def PgO (K : PySem.W.Frag) (g : TG) (ρ : RhoO) (d : PyData) (ρ' : RhoO) : Prop := ∀ (M M' : Addr → Bool) H0 H σ v, EnvM K M M' H0 H σ ρ → Dp K (vis M' H) v d → ∀ R : L2.St → Hp → Prop, (∀ σ', EnvM K M M' H0 H σ' ρ' → R σ' H) → g v σ H R
section
variable {K : PySem.W.Frag} {ρ ρ' ρ'' : RhoO} {te ta tb tc : TE} {tA : TA} {tt : TT} {d e : PyData} {ds es : List PyData} {wi : TI} {g : TG} {vs : List Nat} {t u : TS} {o : OutO}
theorem PuO.cast {o' : OutO} (h : PuO K t ρ o) (e : o = o') : PuO K t ρ o' := e ▸ h
theorem puo_ret (h : PuE K te (seen ρ) d) : PuO K (tRet te) ρ (.rt d) := fun M H0 H σ ⟨M', en⟩ D q => h M σ H en.hidM en.seen _ fun v H1 e1 hv => q v H1 (en.same.trans e1) hv
theorem puo_retN : PuO K tRetN ρ (.rt .none) := fun M H0 H σ ⟨M', en⟩ D q => q _ H en.same .non
theorem puo_next : PuO K tNext ρ (.nx ρ) := fun M H0 H σ en D q => q σ H en
theorem puo_cont : PuO K tCont ρ (.ct ρ) := fun M H0 H σ en D q => q σ H en
theorem puo_seq (h : PuO K t ρ (.nx ρ')) (k : PuO K u ρ' o) : PuO K (tSeq t u) ρ o := fun M H0 H σ en D q =>
  h M H0 H σ en _ fun σ1 H1 en1 => k M H0 H1 σ1 en1 D q
theorem puo_early (h : PuO K t ρ o) (n : ∀ ρ', o ≠ .nx ρ') : PuO K (tSeq t u) ρ o := fun M H0 H σ en D q => h M H0 H σ en _ (by
  cases o with
  | rt d => exact q
  | ro d => exact q
  | nx ρ => exact absurd rfl (n ρ)
  | ct ρ => exact q
  | bk ρ => exact q)
/-- a slot forgotten -/
theorem EnvM.forget {M M' : Addr → Bool} {H0 H : Hp} {σ : L2.St} (h : EnvM K M M' H0 H σ ρ) (i : Nat) : EnvM K M M' H0 H σ (ρ.set i none) := by
  refine ⟨h.le, h.hid, h.same, by rw [List.length_set, h.len], h.new, fun j y q => ?_, fun j fs q => ?_, fun j k fs gs q n q1 q2 s1 s2 => ?_⟩
  · rcases getset q with ⟨rfl, l, e⟩ | ⟨c, q⟩
    · cases e
    · exact h.dat j y q
  · rcases getset q with ⟨rfl, l, e⟩ | ⟨c, q⟩
    · cases e
    · exact h.own j fs q
  · rcases getset q1 with ⟨rfl, l, e⟩ | ⟨c, q1⟩
    · cases e
    rcases getset q2 with ⟨rfl, l, e⟩ | ⟨c2, q2⟩
    · cases e
    exact h.dif j k fs gs q n q1 q2 s1 s2
theorem puo_forget (i : Nat) (h : PuO K t ρ (.nx ρ')) : PuO K t ρ (.nx (ρ'.set i none)) := fun M H0 H σ en D q => h M H0 H σ en D fun σ' H' ⟨N, e⟩ => q σ' H' ⟨N, e.forget i⟩
theorem puo_retO {i : Nat} (hi : ρ[i]? = some (some (.o ds))) : PuO K (tRet (tVar i)) ρ (.ro ds) := fun M H0 H σ ⟨M', en⟩ D q => by
  obtain ⟨p, ws, a, b, c1, c2, c3, c4⟩ := en.own i ds hi
  refine ⟨_, a, q p ws H en.same c3 c2 b (dpAll_same (vis_le fun b z => ?_) _ _ c4)⟩
  rcases (Bool.or_eq_true _ _).mp z with z | z
  · exact en.le b z
  · rw [eq_of_beq z]; exact c1
theorem puo_if {b : Bool} (h : PuT K tt (seen ρ) b) (k : b = true → PuO K t ρ o) (k' : b = false → PuO K u ρ o) : PuO K (tIfS tt t u) ρ o := fun M H0 H σ ⟨M', en⟩ D q => h M σ H en.hidM en.seen _ fun H1 e1 => by
  cases b with
  | true => exact iteT (k rfl M H0 H1 σ ⟨M', en.next e1⟩ D q)
  | false => exact iteF (k' rfl M H0 H1 σ ⟨M', en.next e1⟩ D q)
theorem puo_ifr {b : Bool} (h : PuT K tt (seen ρ) b) (k : b = true → ∃ e, o = .rt e ∧ PuO K t ρ (.rt e)) (k' : b = false → PuO K u ρ o) : PuO K (tSeq (tIfS tt t tNext) u) ρ o := by
  cases b with
  | true =>
    obtain ⟨e, rfl, h2⟩ := k rfl
    exact puo_early (puo_if h (fun _ => h2) (fun z => nomatch z)) (fun _ z => nomatch z)
  | false => exact puo_seq (puo_if h (fun z => nomatch z) (fun _ => puo_next)) (k' rfl)
theorem puo_set {i : Nat} (h : PuE K te (hidn ρ) d) (k : PuO K u (ρ.set i (some (.d d))) o) : PuO K (tSeq (tAsg te (gName i)) u) ρ o := puo_seq (ρ' := ρ.set i (some (.d d))) (fun M H0 H σ ⟨M', en⟩ D q => h M' σ H en.hid en.hidn _ fun v H1 e1 hv => q _ H1 ⟨M', (en.next e1).put hv i⟩) k
def flatD : PyData → Bool
  | .none => true
  | .bool _ => true
  | .int _ => true
  | .str _ => true
  | _ => false
theorem dp_flat {H H' : Hp} {v : V} {d : PyData} (f : flatD d = true) (h : Dp K H v d) : Dp K H' v d := by
  cases h with
  | non => exact .non
  | bl b => exact .bl b
  | int i => exact .int i
  | str x => exact .str x
  | lst _ _ => cases f
  | tup _ _ => cases f
/-- .. a flat thing, reckoned of own lists too -/
theorem puo_setF {i : Nat} (f : flatD d = true) (h : PuE K te (seen ρ) d) (k : PuO K u (ρ.set i (some (.d d))) o) : PuO K (tSeq (tAsg te (gName i)) u) ρ o := puo_seq (ρ' := ρ.set i (some (.d d))) (fun M H0 H σ ⟨M', en⟩ D q => h M σ H en.hidM en.seen _ fun v H1 e1 hv => q _ H1 ⟨M', (en.next e1).put (dp_flat f hv) i⟩) k
theorem puo_new {i : Nat} (h : PuA K tA (hidn ρ) ds) (hl : ds.length ≤ 100000) (k : PuO K u (ρ.set i (some (.o ds))) o) : PuO K (tSeq (tAsg (tLst tA) (gName i)) u) ρ o := puo_seq (ρ' := ρ.set i (some (.o ds))) (fun M H0 H σ ⟨M', en⟩ D q => h M' σ H en.hid en.hidn _ fun vs H1 e1 hvs =>
  ⟨sl1000 (by rw [dpAll_len hvs]; exact hl), fun p np => q _ _ ((en.next e1).lay np hvs i)⟩) k
theorem puo_asg (h : PuE K te (hidn ρ) d) (hg : PgO K g ρ d ρ') (k : PuO K u ρ' o) : PuO K (tSeq (tAsg te g) u) ρ o := puo_seq (ρ' := ρ') (fun M H0 H σ ⟨M', en⟩ D q => h M' σ H en.hid en.hidn _ fun v H1 e1 hv => hg M M' H0 H1 σ v (en.next e1) hv _ fun σ' en' => q _ H1 ⟨M', en'⟩) k
theorem puo_append {i : Nat} (hi : ρ[i]? = some (some (.o ds))) (hl : ds.length < 100000) (h : PuE K te (hidn ρ) d) : PuO K (tDrop (tBM K "list" rAppend (tVar i) (tCons te tNil))) ρ (.nx (ρ.set i (some (.o (ds ++ [d]))))) := fun M H0 H σ ⟨M', en⟩ D q => by
  obtain ⟨p, ws, a, b, c1, c2, c3, c4⟩ := en.own i ds hi
  refine ⟨_, a, .inl ⟨rfl, _, SqL.of b⟩, h M' σ H en.hid en.hidn _ fun v H1 e1 hv => ?_⟩
  have en1 := en.next e1
  refine ⟨p, ws, v, rfl, rfl, e1 _ _ b, sl1001 (by rw [dpAll_len c4]; exact hl), q σ _ ⟨M', en1.write hi a ?_⟩⟩
  exact dpAll_app (dpAll_same (vis_same e1) _ _ c4) (.cons hv .nil)
theorem puo_freeze {i : Nat} (hi : ρ[i]? = some (some (.o ds))) (k : PuO K u (ρ.set i (some (.d (.list ds)))) o) : PuO K u ρ o := fun M H0 H σ ⟨M', en⟩ D q => k M H0 H σ (en.freeze hi) D q
/-! targets -/
theorem pgo_name (j : Nat) : PgO K (gName j) ρ d (ρ.set j (some (.d d))) := fun M M' H0 H σ v en hd R r => r _ (en.put hd j)
theorem pgo_two (j k : Nat) : PgO K (gTup K 2 (gCons (gName j) (gCons (gName k) gNil))) ρ (.tuple [d, e]) ((ρ.set j (some (.d d))).set k (some (.d e))) := fun M M' H0 H σ v en hd R r => by
  obtain ⟨a, xs, rfl, hs, ha⟩ := dp_tupI hd
  cases ha with
  | cons h1 ha =>
    cases ha with
    | cons h2 ha =>
      cases ha
      exact ⟨a, _, rfl, sqT_same vis_sub hs, rfl, _, _, rfl, _, _, rfl, rfl, r _ ((en.put h1 j).put h2 k)⟩
theorem pgo_three {f : PyData} (j k l : Nat) : PgO K (gTup K 3 (gCons (gName j) (gCons (gName k) (gCons (gName l) gNil)))) ρ (.tuple [d, e, f]) (((ρ.set j (some (.d d))).set k (some (.d e))).set l (some (.d f))) := fun M M' H0 H σ v en hd R r => by
  obtain ⟨a, xs, rfl, hs, ha⟩ := dp_tupI hd
  cases ha with
  | cons h1 ha =>
    cases ha with
    | cons h2 ha =>
      cases ha with
      | cons h3 ha =>
        cases ha
        exact ⟨a, _, rfl, sqT_same vis_sub hs, rfl, _, _, rfl, _, _, rfl, _, _, rfl, rfl, r _ (((en.put h1 j).put h2 k).put h3 l)⟩
/-! loops -/
/-- what a turn gives: on to the next, or out of the def -/
theorem puo_for {α : Type} {xs : List α} {td : α → PyData} {tb : TS} {k : Nat} (F : Nat → RhoO) (hi : PuI K wi (hidn ρ) (xs.map td)) (h0 : ρ = F 0) (hk : k ≤ xs.length)
    (hb : ∀ i x, i < k → xs[i]? = some x → ∃ ρ1, PgO K g (F i) (td x) ρ1 ∧ (PuO K tb ρ1 (.nx (F (i + 1))) ∨ PuO K tb ρ1 (.ct (F (i + 1)))))
    (hr : (k = xs.length ∧ o = .nx (F k)) ∨ (∃ x r, xs[k]? = some x ∧ o = .rt r ∧ ∃ ρ1, PgO K g (F k) (td x) ρ1 ∧ PuO K tb ρ1 (.rt r)) ∨ (∃ x ρ2, xs[k]? = some x ∧ o = .nx ρ2 ∧ ∃ ρ1, PgO K g (F k) (td x) ρ1 ∧ PuO K tb ρ1 (.bk ρ2))) : PuO K (tFor wi g tb) ρ o := fun M H0 H σ ⟨M', en⟩ D q => by
  subst h0
  refine hi M' σ H en.hid en.hidn _ fun J H1 e1 it => ?_
  have en1 := en.next e1
  obtain ⟨Hb, enb, s0, sb⟩ := en1.base
  have back : ∀ b, Hb b = none → H0 b = none := fun b n => by
    cases c : H0 b with
    | none => rfl
    | some u => rw [s0 _ _ c] at n; cases n
  have out : ∀ {σ' : L2.St} {Hn : Hp} {ρ' : RhoO}, EnvO K M Hb Hn σ' ρ' → EnvO K M H0 Hn σ' ρ' := fun {σ' Hn ρ'} ⟨N, e⟩ => by
    refine ⟨N, e.le, e.hid, s0.trans e.same, e.len, fun b z => (e.new b z).imp id (back b), e.dat, fun i ds z => ?_, e.dif⟩
    obtain ⟨p, vs, a1, a2, a3, a4, a5, a6⟩ := e.own i ds z
    exact ⟨p, vs, a1, a2, a3, a4, back p a5, a6⟩
  have sg : ∀ {N : Addr → Bool} {Hn : Hp} {σ' : L2.St} {ρ' : RhoO}, EnvM K M N Hb Hn σ' ρ' → Same (vis M' H1) (vis N Hn) := fun {N Hn σ' ρ'} e b u z => by
    have zb := sb b u z
    have zn := e.same _ _ zb
    have nN : N b = false := by
      cases c : N b with
      | false => rfl
      | true =>
        rcases e.new b c with n | n
        · unfold vis at z
          rw [enb.le b n, if_pos rfl] at z
          cases z
        · rw [zb] at n; cases n
    unfold vis
    rw [nN, if_neg Bool.false_ne_true]
    exact zn
  refine ⟨fun i m σ' Hn => m = xs.length - i ∧ i ≤ k ∧ EnvO K M Hb Hn σ' (F i), ⟨_, rfl, Nat.zero_le _, M', enb⟩, ?_⟩
  rintro i m σ' Hn ⟨rfl, ile, N, en'⟩
  have sgn := sg en'
  by_cases c : i < xs.length
  · have hx : xs[i]? = some xs[i] := List.getElem?_eq_getElem c
    by_cases ik : i < k
    · refine .inr ⟨it.go i Hn (sgn.trans vis_sub) (by rw [List.length_map]; exact c), fun σ'' H' => i + 1 ≤ k ∧ EnvO K M Hb H' σ'' (F (i + 1)), fun σ'' H' nx => ⟨_, by omega, rfl, nx⟩, fun x Hy y => ?_⟩
      obtain ⟨sy, dy⟩ := it.yl i Hn x Hy (td xs[i]) (sgn.trans vis_sub) (by rw [List.getElem?_map, hx]; rfl) y
      have hdx := dy N en'.hid sgn
      obtain ⟨ρ1, hg, ht⟩ := hb i xs[i] ik hx
      refine hg M N Hb Hy σ' x (en'.next sy) hdx _ fun σ2 en2 => ?_
      rcases ht with ht | ht
      · exact ht M Hb Hy σ2 ⟨N, en2⟩ _ fun σ3 H3 en3 => ⟨ik, en3⟩
      · exact ht M Hb Hy σ2 ⟨N, en2⟩ _ fun σ3 H3 en3 => ⟨ik, en3⟩
    · have e : i = k := by omega
      subst e
      rcases hr with ⟨z, _⟩ | ⟨x, r, hxk, rfl, ρ1, hg, ht⟩ | ⟨x, ρ2, hxk, rfl, ρ1, hg, ht⟩
      · omega
      · rw [hx] at hxk
        cases hxk
        refine .inr ⟨it.go i Hn (sgn.trans vis_sub) (by rw [List.length_map]; exact c), fun σ'' H' => False, (fun σ'' H' nx => nx.elim), fun x Hy y => ?_⟩
        obtain ⟨sy, dy⟩ := it.yl i Hn x Hy (td xs[i]) (sgn.trans vis_sub) (by rw [List.getElem?_map, hx]; rfl) y
        have hdx := dy N en'.hid sgn
        refine hg M N Hb Hy σ' x (en'.next sy) hdx _ fun σ2 en2 => ?_
        exact ht M Hb Hy σ2 ⟨N, en2⟩ _ fun v H3 e3 hv => q v H3 (s0.trans e3) hv
      · rw [hx] at hxk
        cases hxk
        refine .inr ⟨it.go i Hn (sgn.trans vis_sub) (by rw [List.length_map]; exact c), fun σ'' H' => False, (fun σ'' H' nx => nx.elim), fun x Hy y => ?_⟩
        obtain ⟨sy, dy⟩ := it.yl i Hn x Hy (td xs[i]) (sgn.trans vis_sub) (by rw [List.getElem?_map, hx]; rfl) y
        have hdx := dy N en'.hid sgn
        refine hg M N Hb Hy σ' x (en'.next sy) hdx _ fun σ2 en2 => ?_
        exact ht M Hb Hy σ2 ⟨N, en2⟩ _ fun σ3 H3 en3 => q σ3 H3 (out en3)
  · have e : i = xs.length := by omega
    rcases hr with ⟨z, rfl⟩ | ⟨x, r, hxk, _⟩ | ⟨x, r, hxk, _⟩
    · have e2 : i = k := by omega
      subst e2
      exact .inl ⟨it.st _ Hn (sgn.trans vis_sub) (by rw [List.length_map]; omega), q σ' Hn (out ⟨N, en'⟩)⟩
    · have := (List.getElem?_eq_some_iff.mp hxk).1
      omega
    · have := (List.getElem?_eq_some_iff.mp hxk).1
      omega
end
/-- a def that hands back a list of its own making -/
def spOwn (K : PySem.W.Frag) (m : Nat) (g : List PyData → List PyData → Prop) : Sp := fun vs H Q _ => ∃ M ds es, Hid M H ∧ vs.length = m ∧ DpAll K (vis M H) vs ds ∧ g ds es ∧ ∀ p xs H', Same H H' → H p = none → H' p = some (.lst xs) → DpAll K (vis (fun b => M b || b == p) H') xs es → Q (.ref p) H'
section
variable {K : PySem.W.Frag} {ρ : Rho} {tA : TA} {ds es : List PyData}
theorem pu_callO {m : Nat} {g : List PyData → List PyData → Prop} (h : PuA K tA ρ ds) (hm : ds.length = m := by rfl) (hg : g ds es) : PuE K (tCall (spOwn K m g) [] E0 tA) ρ (.list es) := fun M σ H hid en Q q =>
  h M σ H hid en _ fun vs H1 e1 hvs => ⟨M, ds, es, hid.same e1, by rw [List.append_nil, dpAll_len hvs, hm], by rw [List.append_nil]; exact hvs, hg, fun p xs H' e2 np hp ha => by
    refine q (.ref p) H' (e1.trans e2) (.lst (SqL.of ?_) (dpAll_same vis_or_same _ _ ha))
    unfold vis
    rw [(hid.same e1).non np, if_neg Bool.false_ne_true]
    exact hp⟩
end
theorem puo_setO {K : PySem.W.Frag} {ρ : RhoO} {tA : TA} {u : TS} {o : OutO} {ds es : List PyData} {i m : Nat} {g : List PyData → List PyData → Prop} (h : PuA K tA (hidn ρ) ds) (hm : ds.length = m := by rfl) (hg : g ds es) (k : PuO K u (ρ.set i (some (.o es))) o) : PuO K (tSeq (tAsg (tCall (spOwn K m g) [] E0 tA) (gName i)) u) ρ o :=
  puo_seq (ρ' := ρ.set i (some (.o es))) (fun M H0 H σ ⟨M', en⟩ D q => h M' σ H en.hid en.hidn _ fun vs H1 e1 hvs => ⟨M', ds, es, en.hid.same e1, by rw [List.append_nil, dpAll_len hvs, hm], by rw [List.append_nil]; exact hvs, hg, fun p xs H' e2 np hp ha => by
    have en1 := en.next e1
    have n0 : H0 p = none := by
      cases e : H0 p with
      | none => rfl
      | some u => rw [en1.same _ _ e] at np; cases np
    have nM' : M' p = false := en1.hid.non np
    have nM : M p = false := by
      cases e : M p with
      | false => rfl
      | true => rw [en1.le p e] at nM'; cases nM'
    have sv : Same (vis M' H1) (vis (fun b => M' b || b == p) H') := same_vis_or np e2
    refine q _ H' ⟨fun b => M' b || b == p, fun b z => by rw [en1.le b z]; rfl, hid_or (en1.hid.same e2) hp, en1.same.trans e2, by rw [List.length_set, List.length_set, en1.len], fun b z => ?_, fun j y q => ?_, fun j es q => ?_, fun j k es fs q n q1 q2 s1 s2 => ?_⟩
    · rcases (Bool.or_eq_true _ _).mp z with z | z
      · exact en1.new b z
      · rw [eq_of_beq z]; exact .inr n0
    · rcases getset q with ⟨rfl, l, e⟩ | ⟨c, q⟩
      · cases e
      · obtain ⟨u, a, b⟩ := en1.dat j y q
        exact ⟨u, by rw [List.getElem?_set_ne c]; exact a, dp_same sv _ _ b⟩
    · rcases getset q with ⟨rfl, l, e⟩ | ⟨c, q⟩
      · cases e
        exact ⟨p, xs, List.getElem?_set_self (by rw [en1.len]; exact l), hp, by simp, nM, n0, ha⟩
      · obtain ⟨r, ws, a, b, c1, c2, c3, c4⟩ := en1.own j es q
        exact ⟨r, ws, by rw [List.getElem?_set_ne c]; exact a, e2 _ _ b, by rw [c1]; rfl, c2, c3, dpAll_same sv _ _ c4⟩
    · have fresh : ∀ (j : Nat) (es : List PyData), ρ[j]? = some (some (.o es)) → σ[j]? = some (some (.ref p)) → False := fun j es q s => by
        obtain ⟨r, ws, a, b, _⟩ := en1.own j es q
        rw [s] at a
        cases a
        rw [np] at b
        cases b
      rcases getset q1 with ⟨rfl, l, e⟩ | ⟨c, q1⟩
      · rw [List.getElem?_set_self (by rw [en1.len]; exact l)] at s1
        cases s1
        rcases getset q2 with ⟨z, _⟩ | ⟨c2, q2⟩
        · exact n z
        · rw [List.getElem?_set_ne c2] at s2
          exact fresh k fs q2 s2
      · rw [List.getElem?_set_ne c] at s1
        rcases getset q2 with ⟨rfl, l, e⟩ | ⟨c2, q2⟩
        · rw [List.getElem?_set_self (by rw [en1.len]; exact l)] at s2
          cases s2
          exact fresh j es q1 s1
        · rw [List.getElem?_set_ne c2] at s2
          exact en1.dif j k es fs q n q1 q2 s1 s2⟩) k
/-! ### defs -/
/-- the slots at a def's entry -/
def startD (N : List Str) (ds : List PyData) : Rho := ds.map some ++ List.replicate (N.length - ds.length) none
def startE (N : List Str) (ds : List PyData) : RhoO := (ds.map fun d => some (.d d)) ++ List.replicate (N.length - ds.length) none
theorem envD_app {K : PySem.W.Frag} {H : Hp} : ∀ {vs : List V} {ds : List PyData} (n : Nat), DpAll K H vs ds → EnvD K H (vs.map some ++ List.replicate n none) (ds.map some ++ List.replicate n none)
  | [], [], 0, _ => EnvD.nil
  | [], [], n + 1, _ => (envD_app n .nil).non none
  | _, _, n, .cons h1 h2 => (envD_app n h2).cons h1
theorem envD_start {K : PySem.W.Frag} {H : Hp} {N : List Str} {vs : List V} {ds : List PyData} (h : DpAll K H vs ds) : EnvD K H (L2.start N vs) (startD N ds) := by
  unfold L2.start startD
  rw [dpAll_len h]
  exact envD_app _ h
theorem envO_start {K : PySem.W.Frag} {M : Addr → Bool} {H : Hp} {N : List Str} {vs : List V} {ds : List PyData} (hid : Hid M H) (h : DpAll K (vis M H) vs ds) : EnvO K M H H (L2.start N vs) (startE N ds) := by
  have e := envD_start (N := N) h
  have sd : startE N ds = (startD N ds).map (·.map Ent.d) := by
    unfold startE startD
    rw [List.map_append, List.map_map, List.map_replicate]
    rfl
  refine ⟨M, fun _ z => z, hid, Same.refl _, by rw [e.1, sd, List.length_map], fun b z => .inl z, fun i x q => ?_, fun i x q => ?_, fun i j ds es p n q1 _ _ _ => ?_⟩
  · rw [sd, List.getElem?_map] at q
    cases c : (startD N ds)[i]? with
    | none => rw [c] at q; cases q
    | some y =>
      rw [c] at q
      cases y with
      | none => cases q
      | some y => cases q; exact e.2 i _ c
  · rw [sd, List.getElem?_map] at q
    cases c : (startD N ds)[i]? with
    | none => rw [c] at q; cases q
    | some y =>
      rw [c] at q
      cases y <;> cases q
  · rw [sd, List.getElem?_map] at q1
    generalize (startD N _)[i]? = y at q1
    cases y with
    | none => cases q1
    | some y => cases y <;> cases q1
end Lm
set_option Elab.async false
set_option linter.all false
set_option maxRecDepth 100000
set_option maxHeartbeats 2000000
namespace Lm
open PySem PySem.Spec PyProof.Rows L2
/-- a def of the module that keeps a promise, callable by its name -/
def Has (P : Program) (w : World) (K : PySem.W.Frag) (mg : Str → Option Value) (base : Heap) (k : Nat) (x : Str) (ps : List Str) (sp : Sp) : Prop :=
  ∃ f fd, FnOk P w K mg base CX0 k f fd ps sp ∧ Binds K fd ps [] ∧ mg x = some (.ref f) ∧ PySem.W.keepIn K (.ref f) = true
theorem pe_callH {X : Cx} {k : Nat} {x : Str} {ps : List Str} {sp : Sp} {p pos : Pos} {e : Expr} {es : List Expr} {t : TA} (h : Has X.prog X.w X.K X.mg X.base k x ps sp) (hr : Room k X.A) (hg : Gl X x) (ha : PA X (e :: es) t) (hdb : (x == ("__debug__" : Str)) = false := by decide)
    (he : starEach (e :: es) X.env = (false, eval e X.env) :: starEach es X.env := by rfl) (hpl : (backTo pos (starEach es X.env)).any (·.1) = false := by rfl) : PE X (.Call (.Name x p) (e :: es) [] pos) (tCall sp [] E0 t) := by
  obtain ⟨f, fd, F, b, m, kp⟩ := h
  exact pe_call F hr hg m kp b .nil pass0 ha hdb he hpl
/-- how a def of the text stands behind the top -/
structure Df (K : PySem.W.Frag) (mg : Str → Option Value) (x : Str) (st : Stmt) (ps : List Str) (f : Addr) (fd : FuncData) : Prop where
  fn : Fun K x x st f fd
  bd : Binds K fd ps []
  mg_ : mg x = some (.ref f)
theorem Df.has {P : Program} {w : World} {K : PySem.W.Frag} {mg : Str → Option Value} {base : Heap} {k : Nat} {x : Str} {st : Stmt} {ps : List Str} {f : Addr} {fd : FuncData} {sp : Sp} (D : Df K mg x st ps f fd) (F : FnOk P w K mg base CX0 k f fd ps sp) : Has P w K mg base k x ps sp := ⟨f, fd, F, D.bd, D.mg_, D.fn.kp⟩
/-- the built-in names -/
structure Blt (mg : Str → Option Value) : Prop where
  isinstance : mg "isinstance" = none
  int : mg "int" = none
  bool : mg "bool" = none
  tuple : mg "tuple" = none
  str : mg "str" = none
  list : mg "list" = none
  len : mg "len" = none
  all : mg "all" = none
theorem bt_isinstance : bootBuiltins "isinstance" = some (.builtin "isinstance") := by first | exact PySem.boot_isinstance | decide +kernel
theorem bt_int : bootBuiltins "int" = some (.type "int") := by first | exact PyProof.Rows.boot_int | decide +kernel
theorem bt_bool : bootBuiltins "bool" = some (.type "bool") := by first | exact PyProof.Rows.boot_bool | decide +kernel
theorem bt_tuple : bootBuiltins "tuple" = some (.type "tuple") := by first | exact PyProof.Rows.boot_tuple | decide +kernel
theorem bt_str : bootBuiltins "str" = some (.type "str") := by first | exact PyProof.Rows.boot_str | decide +kernel
theorem bt_list : bootBuiltins "list" = some (.type "list") := by first | exact PyProof.Rows.boot_list | decide +kernel
theorem bt_all : bootBuiltins "all" = some (.builtin "all") := by first | exact PyProof.Rows.boot_all | decide +kernel
theorem bt_any : bootBuiltins "any" = some (.builtin "any") := by first | exact PyProof.Rows.boot_any | decide +kernel
theorem bt_sum : bootBuiltins "sum" = some (.builtin "sum") := by first | exact PyProof.Rows.boot_sum | decide +kernel
theorem bt_max : bootBuiltins "max" = some (.builtin "max") := by decide +kernel
theorem bt_min : bootBuiltins "min" = some (.builtin "min") := by decide +kernel
section
variable {P : Program} {w : World} {K : PySem.W.Frag} {mg : Str → Option Value} {base : Heap} {f : Addr} {fd : FuncData}
/-- a pure def by its pure reading -/
theorem ok_pu {x : Str} {st : Stmt} {N ps : List Str} {k : Nat} {g : List PyData → PyData → Prop} (D : Df K mg x st ps f fd) (S : FnScope N ps (defScope st))
    (bd : ∀ (cdv : Value) (A : Around) (outer : List Env) (s : Shared) (H : Hp) (E : XK), Room k (A.deeper (envOfC x (defScope st) s.heap.objs.size f cdv)) →
      ∃ t, PSs (cxOf CX0 P w K mg base N x (defScope st) f cdv A outer s H E).nox (defBody st) t ∧ ∀ ds d, ds.length = ps.length → g ds d → PuS K t (startD N ds) (.rt d) ∨ (d = .none ∧ ∃ ρ, PuS K t (startD N ds) (.nx ρ))) : FnOk P w K mg base CX0 (k + 1) f fd ps (spPu K ps.length g) := by
  refine D.fn.ok S (fun vs H Q E h => ?_) (fun cdv A outer s H vs Q E hr h => ?_)
  · obtain ⟨M, ds, d, _, hl, _⟩ := h
    exact hl
  obtain ⟨M, ds, d, hid, hl, hd, hg, q⟩ := h
  obtain ⟨t, ht, hp⟩ := bd cdv A outer s H E hr
  refine ⟨t, ht, ?_⟩
  have dl : ds.length = ps.length := by rw [← dpAll_len hd, hl]
  rcases hp ds d dl hg with hp | ⟨rfl, ρ, hp⟩
  · exact hp M _ H hid (envD_start hd) _ q
  · exact hp M _ H hid (envD_start hd) _ fun σ H' e _ => q _ H' e .non
theorem ok_puo {x : Str} {st : Stmt} {N ps : List Str} {k : Nat} {g : List PyData → PyData → Prop} (D : Df K mg x st ps f fd) (S : FnScope N ps (defScope st))
    (bd : ∀ (cdv : Value) (A : Around) (outer : List Env) (s : Shared) (H : Hp) (E : XK), Room k (A.deeper (envOfC x (defScope st) s.heap.objs.size f cdv)) →
      ∃ t, PSs (cxOf CX0 P w K mg base N x (defScope st) f cdv A outer s H E).nox (defBody st) t ∧ ∀ ds d, ds.length = ps.length → g ds d → PuO K t (startE N ds) (.rt d)) : FnOk P w K mg base CX0 (k + 1) f fd ps (spPu K ps.length g) := by
  refine D.fn.ok S (fun vs H Q E h => ?_) (fun cdv A outer s H vs Q E hr h => ?_)
  · obtain ⟨M, ds, d, _, hl, _⟩ := h
    exact hl
  obtain ⟨M, ds, d, hid, hl, hd, hg, q⟩ := h
  obtain ⟨t, ht, hp⟩ := bd cdv A outer s H E hr
  refine ⟨t, ht, ?_⟩
  have dl : ds.length = ps.length := by rw [← dpAll_len hd, hl]
  exact hp ds d dl hg M H H _ (envO_start hid hd) _ q
theorem ok_own {x : Str} {st : Stmt} {N ps : List Str} {k : Nat} {g : List PyData → List PyData → Prop} (D : Df K mg x st ps f fd) (S : FnScope N ps (defScope st))
    (bd : ∀ (cdv : Value) (A : Around) (outer : List Env) (s : Shared) (H : Hp) (E : XK), Room k (A.deeper (envOfC x (defScope st) s.heap.objs.size f cdv)) →
      ∃ t, PSs (cxOf CX0 P w K mg base N x (defScope st) f cdv A outer s H E).nox (defBody st) t ∧ ∀ ds es, ds.length = ps.length → g ds es → PuO K t (startE N ds) (.ro es)) : FnOk P w K mg base CX0 (k + 1) f fd ps (spOwn K ps.length g) := by
  refine D.fn.ok S (fun vs H Q E h => ?_) (fun cdv A outer s H vs Q E hr h => ?_)
  · obtain ⟨M, ds, d, _, hl, _⟩ := h
    exact hl
  obtain ⟨M, ds, es, hid, hl, hd, hg, q⟩ := h
  obtain ⟨t, ht, hp⟩ := bd cdv A outer s H E hr
  refine ⟨t, ht, ?_⟩
  have dl : ds.length = ps.length := by rw [← dpAll_len hd, hl]
  exact hp ds es dl hg M H H _ (envO_start hid hd) _ fun p xs H' e n _ hp ha => q p xs H' e n hp ha
end
end Lm
set_option Elab.async false
set_option linter.all false
set_option maxRecDepth 100000
set_option maxHeartbeats 2000000
namespace Lm
open PySem PySem.Spec PyProof.Rows L2
def top (i : Nat) : Stmt := PySem.Challenge.pw_lemmaless_k03_claims.main.body.getD i (.Pass ⟨0, 0, 0, 0⟩)
abbrev sCLineError : Stmt := top 1
abbrev sCBadFormula : Stmt := top 2
abbrev sCBadClaim : Stmt := top 3
abbrev sCBadChain : Stmt := top 4
abbrev sCNoLemma : Stmt := top 5
abbrev sIsNum : Stmt := top 11
abbrev sIsFormula : Stmt := top 12
abbrev sIsF : Stmt := top 13
abbrev sIsSign : Stmt := top 14
abbrev sRefuse : Stmt := top 15
abbrev sInner : Stmt := top 16
abbrev sWords : Stmt := top 17
abbrev sSpelled : Stmt := top 18
abbrev sTruth : Stmt := top 19
abbrev sIsTrue : Stmt := top 20
abbrev sIsClaim : Stmt := top 22
abbrev sNoClaim : Stmt := top 23
abbrev sAlike : Stmt := top 24
abbrev sClaimSp : Stmt := top 25
abbrev sSideSp : Stmt := top 26
abbrev sHolds : Stmt := top 27
abbrev sCell : Stmt := top 29
abbrev sFirst : Stmt := top 30
abbrev sCount : Stmt := top 31
abbrev sSign : Stmt := top 32
abbrev sWorld : Stmt := top 33
abbrev sFormula : Stmt := top 34
abbrev sLTrue : Stmt := top 35
abbrev sLHolds : Stmt := top 36
abbrev sLAlike : Stmt := top 37
abbrev sSide : Stmt := top 38
abbrev sOther : Stmt := top 39
abbrev sWrong : Stmt := top 40
abbrev sRefused : Stmt := top 41
abbrev sLaw : Stmt := top 42
end Lm
set_option Elab.async false
set_option linter.all false
set_option maxRecDepth 100000
set_option maxHeartbeats 2000000
namespace Lm
open PySem PySem.Spec PyProof.Rows L2
section
variable {P : Program} {w : World} {K : PySem.W.Frag} {mg : Str → Option Value} {base : Heap} {f : Addr} {fd : FuncData}
/-! ### is_number, _is_sign -/
theorem scIsNum : FnScope ["thing"] ["thing"] (defScope sIsNum) := ⟨rfl, rfl, rfl, by decide +kernel, rfl, by decide +kernel, by decide +kernel⟩
theorem ok_isNum (D : Df K mg "is_number" sIsNum ["thing"] f fd) (B : Blt mg) : FnOk P w K mg base CX0 1 f fd ["thing"] (spIsNum K) := by
  refine D.fn.ok scIsNum (fun vs H Q E h => ?_) (fun cdv A outer s H vs Q E hr h => ?_)
  · obtain ⟨v, d, rfl, _⟩ := h
    rfl
  obtain ⟨v, d, rfl, hd, q⟩ := h
  refine ⟨_, pss_one (ps_ret (pe_and (pe_callB call_isi (by rfl) B.isinstance bt_isinstance (pa_cons (pv 0) (pa_cons (pe_bltn (v := .ty "int") (by rfl) B.int bt_int rfl) pa_nil)))
    (pe_one (pe_not (pe_callB call_isi (by rfl) B.isinstance bt_isinstance (pa_cons (pv 0) (pa_cons (pe_bltn (v := .ty "bool") (by rfl) B.bool bt_bool rfl) pa_nil))))))), ?_⟩
  refine ⟨v, rfl, v, .ty "int", _, _, _, rfl, .ty "int", tyx_of hd, kit_int hd, isIB d, rfl, ?_⟩
  refine ite2 (fun c => ?_) (fun c => ?_)
  · refine ⟨v, rfl, v, .ty "bool", _, _, _, rfl, .ty "bool", tyx_of hd, kit_bool hd, isBl d, rfl, ?_⟩
    have e : (!isBl d) = isNum d := by cases d <;> first | rfl | exact (Bool.false_ne_true c).elim
    rw [e]
    exact q
  · have e : isNum d = false := by cases d <;> first | rfl | exact absurd rfl c
    rw [e] at q
    exact q
theorem scIsSign : FnScope ["thing"] ["thing"] (defScope sIsSign) := ⟨rfl, rfl, rfl, by decide +kernel, rfl, by decide +kernel, by decide +kernel⟩
theorem ok_isSign {t : Tok} (D : Df K mg "_is_sign" sIsSign ["thing"] f fd) (N : Has P w K mg base 1 "is_number" ["thing"] (spIsNum K)) (ms : mg "MOST_SIGN" = some (.int 99 t)) : FnOk P w K mg base CX0 2 f fd ["thing"] (spIsSign K) := by
  refine D.fn.ok scIsSign (fun vs H Q E h => ?_) (fun cdv A outer s H vs Q E hr h => ?_)
  · obtain ⟨v, d, rfl, _⟩ := h
    rfl
  obtain ⟨v, d, rfl, hd, q⟩ := h
  refine ⟨_, pss_one (ps_ret (pe_and (pe_callH N hr (by rfl) (pa_cons (pv 0) pa_nil)) (pe_one (pe_chain op_le op_le pe_int (pv 0) (pe_glob (v := .int 99) (by rfl) ms ⟨_, rfl⟩))))), ?_⟩
  refine ⟨v, rfl, v, d, rfl, hd, isNum d, rfl, ?_⟩
  refine ite2 (fun c => ?_) (fun c => ?_)
  · cases hd with
    | int i =>
      refine ⟨.int i, rfl, 0, i, rfl, rfl, _, rfl, ?_⟩
      refine ite2 (fun c1 => ?_) (fun c1 => ?_)
      · refine ⟨i, 99, rfl, rfl, ?_⟩
        have e : isSg (.int i) = decide (i ≤ 99) := by
          show (decide (0 ≤ i) && decide (i ≤ 99)) = _
          rw [c1, Bool.true_and]
        rw [e] at q
        exact q
      · have e : isSg (.int i) = false := by
          show (decide (0 ≤ i) && decide (i ≤ 99)) = _
          rw [Bool.eq_false_iff.mpr c1, Bool.false_and]
        rw [e] at q
        exact q
    | _ => exact (Bool.false_ne_true c).elim
  · have e : isSg d = false := by cases d <;> first | rfl | exact absurd rfl c
    rw [e] at q
    exact q
end
end Lm
set_option Elab.async false
set_option linter.all false
set_option maxRecDepth 100000
set_option maxHeartbeats 2000000
namespace Lm
open PySem PySem.Spec PyProof.Rows L2
theorem at0 (x : V) (xs : List V) : atI (x :: xs) 0 = some x := atI_nat (j := 0) rfl
theorem at1 (x y : V) (xs : List V) : atI (x :: y :: xs) 1 = some y := atI_nat (j := 1) rfl
section
variable {P : Program} {w : World} {K : PySem.W.Frag} {mg : Str → Option Value} {base : Heap} {f : Addr} {fd : FuncData}
/-! ### _is_formula_of -/
theorem scIsF : FnScope ["thing", "deep", "word", "inner"] ["thing", "deep"] (defScope sIsF) := ⟨rfl, rfl, rfl, by decide +kernel, rfl, by decide +kernel, by decide +kernel⟩
theorem ok_isF {n : Nat} {dd : Addr} {es : Array DictEntry} {m : Nat} (D : Df K mg "_is_formula_of" sIsF ["thing", "deep"] f fd) (B : Blt mg) (G : Has P w K mg base (n + 2) "_is_formula_of" ["thing", "deep"] (spIsF K n))
    (S : Has P w K mg base 2 "_is_sign" ["thing"] (spIsSign K)) (M : ManyD K w dd es m) (mM : mg "MANY_INNER" = some (.ref dd)) : FnOk P w K mg base CX0 (n + 3) f fd ["thing", "deep"] (spIsF K (n + 1)) := by
  refine D.fn.ok scIsF (fun vs H Q E h => ?_) (fun cdv A outer s H vs Q E hr h => ?_)
  · obtain ⟨v, d, k, rfl, _⟩ := h
    rfl
  obtain ⟨v, d, k, rfl, hd, h0, hk, q0⟩ := h
  have q : ∀ (b : Bool) (H' : Hp), Same H H' → isF k.toNat d = b → Q (.bl b) H' := fun b H' e h => h ▸ q0 H' e
  have hr2 : Room 2 (A.deeper (envOfC "_is_formula_of" (defScope sIsF) s.heap.objs.size f cdv)) := hr.mono (by omega)
  refine ⟨_, pss_cons (ps_if (PW.pt (pw_or (pt_cmpR op_eq (pv 1) pe_int (nomark _)) (pw_or (pt_not (pt_val (pe_callB call_isi (by rfl) B.isinstance bt_isinstance (pa_cons (pv 0) (pa_cons (pe_bltn (v := .ty "tuple") (by rfl) B.tuple bt_tuple rfl) pa_nil)))))
      (pw_or1 (pt_cmpR op_eq (pe_callB call_len_seq (by rfl) B.len PySem.boot_len (pa_cons (pv 0) pa_nil)) pe_int (nomark _)))))) (pss_one (ps_ret pe_bl)) pss_nil)
    (pss_cons (ps_set (i := 2) scIsF.nd rfl (.inl rfl) (pe_ix ix_tup (pv 0) pe_int (fun _ _ => rfl)))
    (pss_cons (ps_if (pt_not (pt_val (pe_callB call_isi (by rfl) B.isinstance bt_isinstance (pa_cons (pv 2) (pa_cons (pe_bltn (v := .ty "str") (by rfl) B.str bt_str rfl) pa_nil))))) (pss_one (ps_ret pe_bl)) pss_nil)
    (pss_cons (ps_if (pt_cmpR op_eq (pv 2) pe_str (nomark _)) (pss_one (ps_ret (pe_and (pe_cmpR op_eq (pe_callB call_len_seq (by rfl) B.len PySem.boot_len (pa_cons (pv 0) pa_nil)) pe_int (nomark _))
      (pe_one (pe_callH S hr2 (by rfl) (pa_cons (pe_ix ix_tup (pv 0) pe_int (fun _ _ => rfl)) pa_nil)))))) pss_nil)
    (pss_cons (ps_if (PW.pt (pw_or (pt_cmpR (op_notIn_kd M.kd) (pv 2) (pe_glob (v := .ref dd) (by rfl) mM rfl) (by rfl))
      (pw_or1 (pt_cmpR op_ne (pe_callB call_len_seq (by rfl) B.len PySem.boot_len (pa_cons (pv 0) pa_nil)) (pe_op op_add pe_int (pe_ix ix_kdict (pe_glob (v := .ref dd) (by rfl) mM rfl) (pv 2) (fun _ _ => rfl))) (nomark _))))) (pss_one (ps_ret pe_bl)) pss_nil)
    (pss_one (ps_ret (pe_callB (cr_all rfl) (by rfl) B.all bt_all (pa_cons (pe_lc (own := [("inner", 3)]) (g := gName 3) (tt := tYes) rfl scIsF.nd (pi_tup (pe_slice sl_tup (pv 0) (po_some pe_int) po_none))
      (blkOk_by (N := ["thing", "deep", "word", "inner"]) (sc := defScope sIsF) (by decide +kernel)) (fun _ _ _ _ _ => pg_name (i := 3) scIsF.nd rfl (Or.inl rfl)) (fun _ _ _ _ _ => pts_nil)
      (fun _ _ _ _ _ => pe_callH G hr (by rfl) (pa_cons (pv 3) (pa_cons (pe_op op_sub (pv 1) pe_int) pa_nil)))) pa_nil)))))))), ?_⟩
  -- deep == 0
  refine ⟨.int k, rfl, rfl, _, rfl, ?_⟩
  refine ite2 (fun c => ?_) (fun c => ?_)
  · have e : k = 0 := V.int.inj (of_decide_eq_true c)
    refine q false H (Same.refl H) ?_
    rw [e]
    exact isF_zero d
  have hk0 : 0 < k := by
    rcases Int.lt_or_eq_of_le h0 with z | z
    · exact z
    · exact absurd (decide_eq_true (congrArg V.int z.symm)) c
  obtain ⟨j, hj⟩ : ∃ j : Nat, k.toNat = j + 1 := ⟨k.toNat - 1, by omega⟩
  -- a tuple
  refine ⟨v, rfl, v, .ty "tuple", _, _, _, rfl, .ty "tuple", tyx_of hd, kit_tuple hd, isTu d, rfl, ?_⟩
  refine ite2 (fun c1 => ?_) (fun c1 => ?_)
  · refine q false H (Same.refl H) ?_
    rw [hj]
    cases d <;> first | rfl | exact (Bool.false_ne_true c1).elim
  cases hd with
  | tup hs ha =>
    rename_i a xs ds
    have hlen := dpAll_len ha
    -- len(thing) == 0
    refine ⟨.ref a, rfl, a, xs, rfl, .inr hs, rfl, _, rfl, ?_⟩
    refine ite2 (fun c2 => ?_) (fun c2 => ?_)
    · refine q false H (Same.refl H) ?_
      have e : ((xs.length : Nat) : Int) = 0 := V.int.inj (of_decide_eq_true c2)
      have e2 : ds.length = 0 := by omega
      rw [hj, List.eq_nil_of_length_eq_zero e2]
      rfl
    cases ha with
    | nil => exact absurd (decide_eq_true rfl) c2
    | @cons wv ws d0 ds h1 h2 =>
      -- word = thing[0]
      refine ⟨.ref a, rfl, a, _, 0, wv, rfl, rfl, hs, at0 _ _, ?_⟩
      -- isinstance(word, str)
      refine ⟨wv, rfl, wv, .ty "str", _, _, _, rfl, .ty "str", tyx_of h1, kit_str h1, isSt d0, rfl, ?_⟩
      refine ite2 (fun c3 => ?_) (fun c3 => ?_)
      · refine q false H (Same.refl H) ?_
        rw [hj]
        cases d0 <;> first | rfl | exact (Bool.false_ne_true c3).elim
      cases h1 with
      | str x =>
        -- word == 'sign'
        refine ⟨.str x, rfl, rfl, _, rfl, ?_⟩
        refine ite2 (fun c4 => ?_) (fun c4 => ?_)
        · have ex : x = ("sign" : Str) := V.str.inj (of_decide_eq_true c4)
          have isf : isF k.toNat (.tuple (.str x :: ds)) = sgOf ds := by rw [hj, isF, if_pos ex]
          refine ⟨.ref a, rfl, a, _, rfl, .inr hs, rfl, _, rfl, ?_⟩
          refine ite2 (fun c5 => ?_) (fun c5 => ?_)
          · have e : (((V.str x :: ws).length : Nat) : Int) = 2 := V.int.inj (of_decide_eq_true c5)
            cases h2 with
            | nil => exact absurd e (by show ¬ ((1 : Nat) : Int) = 2; decide)
            | @cons y ws d1 ds k1 k2 =>
              cases k2 with
              | cons _ _ =>
                rw [List.length_cons, List.length_cons, List.length_cons] at e
                omega
              | nil =>
                refine ⟨.ref a, rfl, a, _, 1, y, rfl, rfl, hs, at1 _ _ _, y, d1, rfl, k1, ?_⟩
                exact q (isSg d1) H (Same.refl H) isf
          · refine q false H (Same.refl H) ?_
            rw [isf]
            cases h2 with
            | nil => rfl
            | @cons y ws d1 ds k1 k2 =>
              cases k2 with
              | cons _ _ => rfl
              | nil => exact absurd (decide_eq_true rfl) c5
        have ex : ¬ x = ("sign" : Str) := fun z => c4 (decide_eq_true (congrArg V.str z))
        have isf : isF k.toNat (.tuple (.str x :: ds)) = (match arOf x with | none => false | some k => decide (((ds.length + 1 : Nat) : Int) = 1 + k) && (ds.map (isF j)).all id) := by
          rw [hj, isF, if_neg ex]
          all_goals rfl
        -- word not in MANY_INNER
        obtain ⟨r, hr1, hr3⟩ := M.is x
        refine ⟨.str x, rfl, x, r, rfl, rfl, hr1, _, rfl, ?_⟩
        refine ite2 (fun c6 => ?_) (fun c6 => ?_)
        · refine q false H (Same.refl H) ?_
          rw [isf]
          cases e : arOf x with
          | none => rfl
          | some z =>
            rw [hr3, e] at c6
            exact (Bool.false_ne_true c6).elim
        cases e : arOf x with
        | none =>
          rw [hr3, e] at c6
          exact absurd rfl c6
        | some z =>
          obtain ⟨t, ht⟩ := M.get e
          refine ⟨.ref a, rfl, a, _, rfl, .inr hs, .str x, rfl, dd, x, .int z, rfl, rfl, ⟨es, m, .int z t, M.kd.at_, M.kd.lit, ht, ⟨t, rfl⟩⟩, 1, z, rfl, rfl, rfl, _, rfl, ?_⟩
          have hl2 : ws.length = ds.length := dpAll_len h2
          refine ite2 (fun c7 => ?_) (fun c7 => ?_)
          · refine q false H (Same.refl H) ?_
            have ne : ¬ ((ds.length + 1 : Nat) : Int) = 1 + z := fun zz => by
              have zz2 : (((V.str x :: ws).length : Nat) : Int) = 1 + z := by rw [List.length_cons, hl2]; exact zz
              rw [decide_eq_true (congrArg V.int zz2)] at c7
              exact Bool.false_ne_true c7
            rw [isf, e]
            show (decide (((ds.length + 1 : Nat) : Int) = 1 + z) && _) = false
            rw [decide_eq_false ne, Bool.false_and]
          · have eq2 : ((ds.length + 1 : Nat) : Int) = 1 + z := by
              by_cases zz : (((V.str x :: ws).length : Nat) : Int) = 1 + z
              · rw [List.length_cons, hl2] at zz
                exact zz
              · rw [decide_eq_false (fun y => zz (V.int.inj y))] at c7
                exact absurd rfl c7
            -- all([..])
            refine ⟨.ref a, rfl, 1, rfl, a, _, rfl, hs, cutNot _ _, fun p np => ⟨p, rfl, ⟨_, SqT.of upd_same⟩, fun L nL => ?_⟩⟩
            have hp : SqT K (upd H p (.tup (cutV (V.str x :: ws) (some 1) none))) p ws := SqT.of (by rw [upd_same, cut1a])
            have s1 : Same H (upd H p (.tup (cutV (V.str x :: ws) (some 1) none))) := same_new np _
            have lz : ws.length ≤ sizeLine := by
              have z1 : z ≤ 2 := by
                unfold arOf at e
                split at e
                · cases e; decide
                · split at e
                  · cases e; decide
                  · split at e
                    · cases e; decide
                    · split at e
                      · cases e; decide
                      · cases e
              refine sl1000 ?_
              omega
            refine lc_map_tup (K := K) (a := p) (xs := ws) (ys := ((ds.map (isF j)).map V.bl)) (j := 3) hp nL (by rw [List.length_map, List.length_map, hl2]) (by rw [List.length_map, List.length_map, ← hl2]; exact lz) (fun i y b H' hi hb e1 Q' q' => ?_) (fun H' e1 hL => ?_)
            · obtain ⟨di, hdi, hy⟩ := dpAll_get h2 hi
              have eb : b = .bl (isF j di) := by
                rw [List.getElem?_map, List.getElem?_map, hdi] at hb
                exact (Option.some.inj hb).symm
              refine ⟨y, rfl, .int k, rfl, k, 1, rfl, rfl, y, di, k - 1, rfl, dp_same (s1.trans e1) _ _ hy, by omega, by omega, fun H'' e2 => ?_⟩
              have ej : (k - 1).toNat = j := by omega
              rw [ej]
              rw [eb] at q'
              exact q' H'' e2
            · refine ⟨L, ds.map (isF j), rfl, SqL.of hL, ?_⟩
              refine q _ H' (s1.trans e1) ?_
              rw [isf, e]
              show (decide (((ds.length + 1 : Nat) : Int) = 1 + z) && _) = _
              rw [decide_eq_true eq2, Bool.true_and]
      | _ => exact absurd rfl c3
  | _ => exact absurd rfl c1
end
end Lm
set_option Elab.async false
set_option linter.all false
set_option maxRecDepth 100000
set_option maxHeartbeats 2000000
namespace Lm
open PySem PySem.Spec PyProof.Rows L2
theorem kid_get {K : PySem.W.Frag} {H : Hp} {ys : List V} {fs : List Fm} (h : DpAll K H ys (fs.map Fm.toD)) {i : Nat} {y : V} (e : ys[i]? = some y) : ∃ g, fs[i]? = some g ∧ Dp K H y g.toD := by
  obtain ⟨d, hd, hy⟩ := dpAll_get h e
  rw [List.getElem?_map] at hd
  cases q : fs[i]? with
  | none => rw [q] at hd; cases hd
  | some g =>
    rw [q] at hd
    exact ⟨g, rfl, (Option.some.inj hd) ▸ hy⟩
theorem kid_dep : ∀ {f g : Fm}, g ∈ f.kids → g.dep < f.dep
  | .sg _, g, h => nomatch h
  | .no f, g, h => by
    rw [List.mem_singleton.mp h]
    exact Nat.lt_succ_self _
  | .bi w f k, g, h => by
    show g.dep < max f.dep k.dep + 1
    rcases List.mem_cons.mp h with e | h
    · rw [e]; omega
    · rw [List.mem_singleton.mp h]; omega
theorem kid_good : ∀ {f g : Fm}, f.good → g ∈ f.kids → g.good
  | .sg _, g, _, h => nomatch h
  | .no f, g, hf, h => by
    rw [List.mem_singleton.mp h]
    exact hf
  | .bi w f k, g, hf, h => by
    rcases List.mem_cons.mp h with e | h
    · rw [e]; exact hf.1
    · rw [List.mem_singleton.mp h]; exact hf.2
theorem kids_len : ∀ f : Fm, f.kids.length ≤ 2
  | .sg _ => Nat.zero_le _
  | .no _ => (by decide : 1 ≤ 2)
  | .bi _ _ _ => Nat.le_refl 2
theorem log_small {i : Int} (h : 0 ≤ i ∧ i ≤ 99) : i.natAbs.log2 < 1920 := by
  have q : ∀ m : Fin 100, m.val.log2 < 1920 := by decide +kernel
  exact q ⟨i.natAbs, by omega⟩
theorem str_len (x y : Str) : (x ++ y).length = x.length + y.length := by
  rw [TL.len_tl, TL.tl_append, List.length_append, ← TL.len_tl, ← TL.len_tl]
section
variable {P : Program} {w : World} {K : PySem.W.Frag} {mg : Str → Option Value} {base : Heap} {f : Addr} {fd : FuncData}
theorem all_isF {dd : Addr} {es : Array DictEntry} {m : Nat} (D : Df K mg "_is_formula_of" sIsF ["thing", "deep"] f fd) (B : Blt mg)
    (S : Has P w K mg base 2 "_is_sign" ["thing"] (spIsSign K)) (M : ManyD K w dd es m) (mM : mg "MANY_INNER" = some (.ref dd)) : ∀ n : Nat, Has P w K mg base (n + 2) "_is_formula_of" ["thing", "deep"] (spIsF K n)
  | 0 => by
    have no : ∀ vs H Q E, ¬ spIsF K 0 vs H Q E := fun vs H Q E h => by
      obtain ⟨v, d, k, _, _, h1, h2, _⟩ := h
      omega
    exact D.has ⟨fun vs H Q E h => absurd h (no vs H Q E), fun A outer s H args us vs Q E _ _ _ _ h => absurd h (no vs H Q E)⟩
  | n + 1 => D.has (ok_isF D B (all_isF D B S M mM n) S M mM)
theorem scIsFormula : FnScope ["thing"] ["thing"] (defScope sIsFormula) := ⟨rfl, rfl, rfl, by decide +kernel, rfl, by decide +kernel, by decide +kernel⟩
theorem ok_isFormula {t : Tok} (D : Df K mg "is_formula" sIsFormula ["thing"] f fd) (G : Has P w K mg base 15 "_is_formula_of" ["thing", "deep"] (spIsF K 13)) (md : mg "MOST_DEEP" = some (.int 12 t)) : FnOk P w K mg base CX0 16 f fd ["thing"] (spIsFormula K) := by
  refine D.fn.ok scIsFormula (fun vs H Q E h => ?_) (fun cdv A outer s H vs Q E hr h => ?_)
  · obtain ⟨v, d, rfl, _⟩ := h
    rfl
  obtain ⟨v, d, rfl, hd, q⟩ := h
  refine ⟨_, pss_one (ps_ret (pe_callH G hr (by rfl) (pa_cons (pv 0) (pa_cons (pe_glob (v := .int 12) (by rfl) md ⟨_, rfl⟩) pa_nil)))), ?_⟩
  exact ⟨v, rfl, v, d, 12, rfl, hd, by decide, by decide, fun H' e => q H' e⟩
theorem scRefuse : FnScope ["thing"] ["thing"] (defScope sRefuse) := ⟨rfl, rfl, rfl, by decide +kernel, rfl, by decide +kernel, by decide +kernel⟩
theorem ok_refuse0 (D : Df K mg "refuse_no_formula" sRefuse ["thing"] f fd) (G : Has P w K mg base 16 "is_formula" ["thing"] (spIsFormula K)) : FnOk P w K mg base CX0 17 f fd ["thing"] (spRefuse0 K) := by
  refine D.fn.ok scRefuse (fun vs H Q E h => ?_) (fun cdv A outer s H vs Q E hr h => ?_)
  · obtain ⟨v, d, rfl, _⟩ := h
    rfl
  obtain ⟨v, d, rfl, hd, hf, q⟩ := h
  refine ⟨_, pss_one (ps_if (pt_not (pt_val (pe_callH G hr (by rfl) (pa_cons (pv 0) pa_nil)))) (pss_one ps_never) pss_nil), ?_⟩
  refine ⟨v, rfl, v, d, rfl, hd, fun H' e => ⟨isF 12 d, rfl, ?_⟩⟩
  rw [hf]
  exact iteF (q H' e)
/-! ### inner_formulas -/
theorem scInner : FnScope ["f"] ["f"] (defScope sInner) := ⟨rfl, rfl, rfl, by decide +kernel, rfl, by decide +kernel, by decide +kernel⟩
theorem ok_inner (D : Df K mg "inner_formulas" sInner ["f"] f fd) : FnOk P w K mg base CX0 1 f fd ["f"] (spInner K) := by
  refine D.fn.ok scInner (fun vs H Q E h => ?_) (fun cdv A outer s H vs Q E hr h => ?_)
  · obtain ⟨v, g, rfl, _⟩ := h
    rfl
  obtain ⟨v, g, rfl, hd, q⟩ := h
  refine ⟨_, pss_cons (ps_if (pt_cmpR op_eq (pe_ix ix_tup (pv 0) pe_int (fun _ _ => rfl)) pe_str (nomark _)) (pss_one (ps_ret (pe_tup pa_nil))) pss_nil)
    (pss_one (ps_ret (pe_slice sl_tup (pv 0) (po_some pe_int) po_none))), ?_⟩
  obtain ⟨a, x, xs, rfl, hs, hm⟩ := dp_kids hd
  cases g with
  | sg i =>
    obtain ⟨rfl, rfl⟩ := hm
    refine ⟨.ref a, rfl, a, _, 0, _, rfl, rfl, hs, at0 _ _, rfl, _, rfl, ?_⟩
    refine ite2 (fun c => ?_) (fun c => absurd (decide_eq_true rfl) c)
    refine ⟨Nat.zero_le _, fun p np => ?_⟩
    exact q p _ [] (same_new np _) (SqT.of upd_same) .nil
  | no g =>
    obtain ⟨rfl, hx⟩ := hm
    refine ⟨.ref a, rfl, a, _, 0, _, rfl, rfl, hs, at0 _ _, rfl, _, rfl, ?_⟩
    refine ite2 (fun c => ?_) (fun c => ?_)
    · exact absurd (V.str.inj (of_decide_eq_true c)) (by decide +kernel)
    refine ⟨.ref a, rfl, 1, rfl, a, _, rfl, hs, cutNot _ _, fun p np => ?_⟩
    exact q p _ xs (same_new np _) (SqT.of (by rw [upd_same, cut1a])) (dpAll_same (same_new np _) _ _ hx)
  | bi b g k =>
    obtain ⟨rfl, hx⟩ := hm
    refine ⟨.ref a, rfl, a, _, 0, _, rfl, rfl, hs, at0 _ _, rfl, _, rfl, ?_⟩
    refine ite2 (fun c => ?_) (fun c => ?_)
    · exact absurd (V.str.inj (of_decide_eq_true c)) (txt_sign b)
    refine ⟨.ref a, rfl, 1, rfl, a, _, rfl, hs, cutNot _ _, fun p np => ?_⟩
    exact q p _ xs (same_new np _) (SqT.of (by rw [upd_same, cut1a])) (dpAll_same (same_new np _) _ _ hx)
/-! ### spelled -/
theorem scSpelled : FnScope ["f", "inside", "inner"] ["f"] (defScope sSpelled) := ⟨rfl, rfl, rfl, by decide +kernel, rfl, by decide +kernel, by decide +kernel⟩
theorem len_le {x : Str} {n : Nat} (h : x.length ≤ n) (hn : n ≤ 100000) : x.length ≤ sizeLine := sl1000 (Nat.le_trans h hn)
theorem len_of (x : Str) : x.length = (TL.tl x).length := TL.len_tl x
theorem cs_not : ("not" : Str).length = 3 := by decide +kernel
theorem cs_open : ("(" : Str).length = 1 := by decide +kernel
theorem cs_close : (")" : Str).length = 1 := by decide +kernel
theorem cs_comma : ("," : Str).length = 1 := by decide +kernel
theorem cs_empty : (Str.empty).length = 0 := rfl
theorem cs_txt (b : Bw) : b.txt.length ≤ 4 := by cases b <;> decide +kernel
theorem join1 (x : Str) : Txt.join ("," : Str) [x] = x := by rw [TL.join_eq]; rfl
theorem join2 (x y : Str) : Txt.join ("," : Str) [x, y] = (x ++ ("," : Str)) ++ y := by rw [TL.join_eq]; rfl
theorem ok_spelled {n : Nat} (D : Df K mg "spelled" sSpelled ["f"] f fd) (B : Blt mg) (I : Has P w K mg base 1 "inner_formulas" ["f"] (spInner K)) (G : Has P w K mg base (n + 1) "spelled" ["f"] (spSpelled K n)) :
    FnOk P w K mg base CX0 (n + 2) f fd ["f"] (spSpelled K (n + 1)) := by
  refine D.fn.ok scSpelled (fun vs H Q E h => ?_) (fun cdv A outer s H vs Q E hr h => ?_)
  · obtain ⟨v, g, rfl, _⟩ := h
    rfl
  obtain ⟨v, g, rfl, hd, hg, h12, hn, q⟩ := h
  have hr1 : Room 1 (A.deeper (envOfC "spelled" (defScope sSpelled) s.heap.objs.size f cdv)) := hr.mono (by omega)
  refine ⟨_, pss_cons (ps_if (pt_cmpR op_eq (pe_ix ix_tup (pv 0) pe_int (fun _ _ => rfl)) pe_str (nomark _)) (pss_one (ps_ret (pe_callTy call_str_int (by rfl) B.str bt_str (pa_cons (pe_ix ix_tup (pv 0) pe_int (fun _ _ => rfl)) pa_nil)))) pss_nil)
    (pss_cons (ps_set (i := 1) scSpelled.nd rfl (.inl rfl) (pe_join pe_str (pe_lc (own := [("inner", 2)]) (g := gName 2) (tt := tYes) rfl scSpelled.nd (pi_tup (pe_callH I hr1 (by rfl) (pa_cons (pv 0) pa_nil)))
      (blkOk_by (N := ["f", "inside", "inner"]) (sc := defScope sSpelled) (by decide +kernel)) (fun _ _ _ _ _ => pg_name (i := 2) scSpelled.nd rfl (Or.inl rfl)) (fun _ _ _ _ _ => pts_nil)
      (fun _ _ _ _ _ => pe_callH G hr (by rfl) (pa_cons (pv 2) pa_nil)))))
    (pss_one (ps_ret (pe_joined (.cons (pe_fmt (pe_ix ix_tup (pv 0) pe_int (fun _ _ => rfl))) (.cons pe_str (.cons (pe_fmt (pv 1)) (.cons pe_str .nil)))))))), ?_⟩
  obtain ⟨a, x, xs, rfl, hs, hm⟩ := dp_kids hd
  have whole : (spS g).length ≤ 18500 := spS_len hg h12
  -- the way behind the test, for a formula that is no sign
  have go : ∀ (z : Str) (ys : List Str), z.length ≤ 4 → ys = g.kids.map spS → (((((Str.empty ++ z) ++ ("(" : Str)) ++ Txt.join ("," : Str) ys) ++ (")" : Str))) = spS g → (Txt.join ("," : Str) ys).length ≤ 18500 → SqT K H a (.str z :: xs) →
      (tSeq (tAsg (tM1 (fun x xs H Q => ∃ a p, ∃ ys : List Str, x = .str a ∧ xs = [.ref p] ∧ (SqL K H p (ys.map V.str) ∨ SqT K H p (ys.map V.str)) ∧ (ys.map (·.length)).sum + ys.length * a.length ≤ 16777216 ∧ Q (.str (Txt.join a ys)) H) (tC (.str ("," : Str)))
          (tLc (iTup K (tCall (spInner K) [] E0 (tCons (tVar 0) tNil))) (gName 2) tYes (tCall (spSpelled K n) [] E0 (tCons (tVar 2) tNil)) [2])) (gName 1))
        (tRet (fun σ H Q => tJs [tFmt (tOp (rIxT K) (tVar 0) (tC (.int 0))), tC (.str ("(" : Str)), tFmt (tVar 1), tC (.str (")" : Str))] Str.empty σ H fun out H1 => Q (.str out) H1)))
        { nx := fun _ H' => Q .non H', rt := Q } (L2.start ["f", "inside", "inner"] [.ref a]) H := by
    intro z ys hz hys hj hl hs
    refine ⟨⟨_, rfl⟩, .ref a, rfl, .ref a, g, rfl, hd, fun r H1 ks e1 hk hks => ⟨r, rfl, ⟨ks, hk⟩, fun L nL => ?_⟩⟩
    have hkl : ks.length = g.kids.length := by rw [dpAll_len hks, List.length_map]
    refine lc_map_tup (K := K) (a := r) (xs := ks) (ys := ys.map V.str) (j := 2) hk nL (by rw [List.length_map, hys, List.length_map, hkl]) (by rw [List.length_map, hys, List.length_map]; exact sl1000 (Nat.le_trans (kids_len g) (by decide))) (fun i y b H' hi hb e2 Q' q' => ?_) (fun H' e2 hL => ?_)
    · obtain ⟨k, hk1, hy⟩ := kid_get hks hi
      have mem : k ∈ g.kids := List.mem_of_getElem? hk1
      have eb : b = .str (spS k) := by
        rw [hys, List.getElem?_map, List.getElem?_map, hk1] at hb
        exact (Option.some.inj hb).symm
      have dl := kid_dep mem
      refine ⟨y, rfl, y, k, rfl, dp_same e2 _ _ hy, kid_good hg mem, by omega, by omega, fun H'' e3 => ?_⟩
      rw [← eb]
      exact q' H'' e3
    · have hs2 : SqT K H' a (.str z :: xs) := sqT_same (e1.trans e2) hs
      have sum : (ys.map (·.length)).sum + ys.length * ("," : Str).length ≤ 16777216 := by
        rw [hys]
        cases g with
        | sg _ =>
          show 0 + 0 * ("," : Str).length ≤ 16777216
          rw [Nat.zero_mul]
          decide
        | no k =>
          have w1 : (spS k).length ≤ 18500 := spS_len (f := k) hg (by have : k.dep + 1 ≤ 12 := h12; omega)
          show ((spS k).length + 0) + 1 * ("," : Str).length ≤ 16777216
          rw [cs_comma]
          omega
        | bi b k l =>
          have h12' : max k.dep l.dep + 1 ≤ 12 := h12
          have w1 : (spS k).length ≤ 18500 := spS_len (f := k) hg.1 (by omega)
          have w2 : (spS l).length ≤ 18500 := spS_len (f := l) hg.2 (by omega)
          show ((spS k).length + ((spS l).length + 0)) + 2 * ("," : Str).length ≤ 16777216
          rw [cs_comma]
          omega
      refine ⟨("," : Str), L, ys, rfl, rfl, .inl (SqL.of hL), sum, ?_⟩
      have l1 : (Str.empty ++ z).length ≤ 4 := by rw [str_len, cs_empty]; omega
      have l2 : ((Str.empty ++ z) ++ ("(" : Str)).length ≤ 5 := by rw [str_len, cs_open]; omega
      have l3 : (((Str.empty ++ z) ++ ("(" : Str)) ++ Txt.join ("," : Str) ys).length ≤ 18505 := by rw [str_len]; omega
      refine ⟨.ref a, rfl, a, _, 0, _, rfl, rfl, hs2, at0 _ _, .inl ⟨z, rfl, len_le hz (by decide), z, rfl, len_le l1 (by decide), _, rfl, len_le l2 (by decide), .str _, rfl, .inl ⟨_, rfl, len_le hl (by decide), _, rfl, len_le l3 (by decide), _, rfl, ?_, ?_⟩⟩⟩
      · rw [hj]
        exact len_le whole (by decide)
      · show Q (.str _) H'
        rw [hj]
        exact q H' (e1.trans e2)
  cases g with
  | sg i =>
    obtain ⟨rfl, rfl⟩ := hm
    refine ⟨.ref a, rfl, a, _, 0, _, rfl, rfl, hs, at0 _ _, rfl, _, rfl, ?_⟩
    refine ite2 (fun c => ?_) (fun c => absurd (decide_eq_true rfl) c)
    exact ⟨.ref a, rfl, a, _, 1, _, rfl, rfl, hs, at1 _ _ _, i, rfl, log_small hg, q H (Same.refl H)⟩
  | no k =>
    obtain ⟨rfl, hx⟩ := hm
    refine ⟨.ref a, rfl, a, _, 0, _, rfl, rfl, hs, at0 _ _, rfl, _, rfl, ?_⟩
    refine ite2 (fun c => ?_) (fun c => ?_)
    · exact absurd (V.str.inj (of_decide_eq_true c)) (by decide +kernel)
    exact go ("not" : Str) [spS k] (by decide +kernel) rfl rfl (by rw [join1]; exact spS_len (f := k) hg (by have : k.dep + 1 ≤ 12 := h12; omega)) hs
  | bi b k l =>
    obtain ⟨rfl, hx⟩ := hm
    refine ⟨.ref a, rfl, a, _, 0, _, rfl, rfl, hs, at0 _ _, rfl, _, rfl, ?_⟩
    refine ite2 (fun c => ?_) (fun c => ?_)
    · exact absurd (V.str.inj (of_decide_eq_true c)) (txt_sign b)
    refine go b.txt [spS k, spS l] (cs_txt b) rfl rfl ?_ hs
    have e : (spS (.bi b k l)).length = 0 + b.txt.length + 1 + (Txt.join ("," : Str) [spS k, spS l]).length + 1 := by
      show (((((Str.empty ++ b.txt) ++ ("(" : Str)) ++ Txt.join ("," : Str) [spS k, spS l]) ++ (")" : Str))).length = _
      rw [str_len, str_len, str_len, str_len, cs_empty, cs_open, cs_close]
    omega
theorem all_spelled (D : Df K mg "spelled" sSpelled ["f"] f fd) (B : Blt mg) (I : Has P w K mg base 1 "inner_formulas" ["f"] (spInner K)) : ∀ n : Nat, Has P w K mg base (n + 1) "spelled" ["f"] (spSpelled K n)
  | 0 => by
    have no : ∀ vs H Q E, ¬ spSpelled K 0 vs H Q E := fun vs H Q E h => by
      obtain ⟨v, g, _, _, _, _, h2, _⟩ := h
      omega
    exact D.has ⟨fun vs H Q E h => absurd h (no vs H Q E), fun A outer s H args us vs Q E _ _ _ _ h => absurd h (no vs H Q E)⟩
  | n + 1 => D.has (ok_spelled D B I (all_spelled D B I n))
end
end Lm
set_option Elab.async false
set_option linter.all false
set_option maxRecDepth 100000
set_option maxHeartbeats 400000
namespace Lm
open PySem PySem.Spec PyProof.Rows L2
section
variable {P : Program} {w : World} {K : PySem.W.Frag} {mg : Str → Option Value} {base : Heap} {f : Addr} {fd : FuncData}
theorem scIsTrue : FnScope ["f", "true_signs", "word", "told", "inner"] ["f", "true_signs"] (defScope sIsTrue) := ⟨rfl, rfl, rfl, by decide +kernel, rfl, by decide +kernel, by decide +kernel⟩
theorem ok_isTrue {n : Nat} (D : Df K mg "_is_true" sIsTrue ["f", "true_signs"] f fd) (I : Has P w K mg base 1 "inner_formulas" ["f"] (spInner K)) (G : Has P w K mg base (n + 1) "_is_true" ["f", "true_signs"] (spIsTrue K n)) :
    FnOk P w K mg base CX0 (n + 2) f fd ["f", "true_signs"] (spIsTrue K (n + 1)) := by
  refine D.fn.ok scIsTrue (fun vs H Q E h => ?_) (fun cdv A outer s H vs Q E hr h => ?_)
  · obtain ⟨v, g, a, kvs, S, rfl, _⟩ := h
    rfl
  obtain ⟨v, g, ad, kvs, S, rfl, hd, hn, had, hS, q⟩ := h
  have hr1 : Room 1 (A.deeper (envOfC "_is_true" (defScope sIsTrue) s.heap.objs.size f cdv)) := hr.mono (by omega)
  refine ⟨_, pss_cons (ps_set (i := 2) scIsTrue.nd rfl (.inl rfl) (pe_ix ix_tup (pv 0) pe_int (fun _ _ => rfl)))
    (pss_cons (ps_if (pt_cmpR op_eq (pv 2) pe_str (nomark _)) (pss_one (ps_ret (pe_cmp (pc_din (hu_of hr) (pe_ix ix_tup (pv 0) pe_int (fun _ _ => rfl)) (pv 1)) (by rfl)))) pss_nil)
    (pss_cons (ps_setLc (i := 3) (own := [("inner", 4)]) (g := gName 4) (tt := tYes) rfl scIsTrue.nd rfl rfl (sw_true rfl rfl rfl (by decide +kernel)) (pi_tup (pe_callH I hr1 (by rfl) (pa_cons (pv 0) pa_nil)))
      (blkOk_by (N := ["f", "true_signs", "word", "told", "inner"]) (sc := defScope sIsTrue) (by decide +kernel)) (fun _ _ _ _ _ => pg_name (i := 4) scIsTrue.nd rfl (Or.inl rfl)) (fun _ _ _ _ _ => pts_nil)
      (fun _ _ _ _ _ => pe_callH G hr (by rfl) (pa_cons (pv 4) (pa_cons (pv 1) pa_nil))))
    (pss_cons (ps_if (pt_cmpR op_eq (pv 2) pe_str (nomark _)) (pss_one (ps_ret (pe_not (pe_ix ix_list (pv 3) pe_int (fun _ _ => rfl))))) pss_nil)
    (pss_cons (ps_if (pt_cmpR op_eq (pv 2) pe_str (nomark _)) (pss_one (ps_ret (pe_and (pe_ix ix_list (pv 3) pe_int (fun _ _ => rfl)) (pe_one (pe_ix ix_list (pv 3) pe_int (fun _ _ => rfl)))))) pss_nil)
    (pss_cons (ps_if (pt_cmpR op_eq (pv 2) pe_str (nomark _)) (pss_one (ps_ret (pe_or (pe_ix ix_list (pv 3) pe_int (fun _ _ => rfl)) (pe_one (pe_ix ix_list (pv 3) pe_int (fun _ _ => rfl)))))) pss_nil)
    (pss_one (ps_ret (pe_or (pe_not (pe_ix ix_list (pv 3) pe_int (fun _ _ => rfl))) (pe_one (pe_ix ix_list (pv 3) pe_int (fun _ _ => rfl))))))))))), ?_⟩
  obtain ⟨a, x, xs, rfl, hs, hm⟩ := dp_kids hd
  refine ⟨.ref a, rfl, a, _, 0, _, rfl, rfl, hs, at0 _ _, ?_⟩
  -- behind told = [..]: what is asked of the rest
  have told : ∀ (z : Str) (Q' : VK), (∀ L H', Same H H' → H' L = some (.lst (g.kids.map fun k => V.bl (k.tr S))) → Q' (.ref L) H') →
      tLc (iTup K (tCall (spInner K) [] E0 (tCons (tVar 0) tNil))) (gName 4) tYes (tCall (spIsTrue K n) [] E0 (tCons (tVar 4) (tCons (tVar 1) tNil))) [4] [some (.ref a), some (.ref ad), some (.str z), none, none] H Q' := by
    intro z R hR
    refine ⟨.ref a, rfl, .ref a, g, rfl, hd, fun r H1 ks e1 hk hks => ⟨r, rfl, ⟨ks, hk⟩, fun L nL => ?_⟩⟩
    have hkl : ks.length = g.kids.length := by rw [dpAll_len hks, List.length_map]
    refine lc_map_tup (K := K) (a := r) (xs := ks) (ys := g.kids.map fun k => V.bl (k.tr S)) (j := 4) hk nL (by rw [List.length_map, hkl]) (by rw [List.length_map]; exact sl1000 (Nat.le_trans (kids_len g) (by decide))) (fun i y b H' hi hb e2 Q' q' => ?_) (fun H' e2 hL => hR L H' (e1.trans e2) hL)
    obtain ⟨k, hk1, hy⟩ := kid_get hks hi
    have mem : k ∈ g.kids := List.mem_of_getElem? hk1
    have eb : b = .bl (k.tr S) := by
      rw [List.getElem?_map, hk1] at hb
      exact (Option.some.inj hb).symm
    have dl := kid_dep mem
    refine ⟨y, rfl, .ref ad, rfl, y, k, ad, kvs, S, rfl, dp_same e2 _ _ hy, by omega, e2 _ _ (e1 _ _ had), hS, fun H'' e3 => ?_⟩
    rw [← eb]
    exact q' H'' e3
  cases g with
  | sg i =>
    obtain ⟨rfl, rfl⟩ := hm
    refine ⟨.str ("sign" : Str), rfl, rfl, _, rfl, ?_⟩
    refine ite2 (fun c => ?_) (fun c => absurd (decide_eq_true rfl) c)
    refine ⟨.ref a, rfl, a, _, 1, _, rfl, rfl, hs, at1 _ _ _, .ref ad, rfl, ad, _, rfl, DGet.k (k := Sum.inl i) had, ?_⟩
    rw [hS i]
    exact q H (Same.refl H)
  | no k =>
    obtain ⟨rfl, hx⟩ := hm
    refine ⟨.str ("not" : Str), rfl, rfl, _, rfl, ?_⟩
    refine ite2 (fun c => absurd (V.str.inj (of_decide_eq_true c)) (by decide +kernel)) (fun c => ?_)
    dsimp only [tNext, tSeq, tAsg]
    refine told ("not" : Str) _ fun L H' e hL => ?_
    refine ⟨.str ("not" : Str), rfl, rfl, _, rfl, ?_⟩
    refine ite2 (fun _ => ?_) (fun c => absurd (decide_eq_true rfl) c)
    exact ⟨.ref L, rfl, L, _, 0, _, rfl, rfl, SqL.of hL, at0 _ _, _, rfl, q H' e⟩
  | bi b k l =>
    obtain ⟨rfl, hx⟩ := hm
    refine ⟨.str b.txt, rfl, rfl, _, rfl, ?_⟩
    refine ite2 (fun c => absurd (V.str.inj (of_decide_eq_true c)) (txt_sign b)) (fun c => ?_)
    dsimp only [tNext, tSeq, tAsg]
    refine told b.txt _ fun L H' e hL => ?_
    have qq : ∀ (c : Bool), (Fm.bi b k l).tr S = c → Q (.bl c) H' := fun c h => h ▸ q H' e
    have hL0 : SqL K H' L [.bl (k.tr S), .bl (l.tr S)] := SqL.of hL
    refine ⟨.str b.txt, rfl, rfl, _, rfl, ?_⟩
    refine ite2 (fun c => absurd (V.str.inj (of_decide_eq_true c)) (txt_not b)) (fun _ => ?_)
    refine ⟨.str b.txt, rfl, rfl, _, rfl, ?_⟩
    cases b with
    | an =>
      refine ite2 (fun _ => ?_) (fun c => absurd (decide_eq_true rfl) c)
      refine ⟨.ref L, rfl, L, _, 0, _, rfl, rfl, hL0, at0 _ _, k.tr S, rfl, ?_⟩
      refine ite2 (fun c => ?_) (fun c => ?_)
      · refine ⟨.ref L, rfl, L, _, 1, _, rfl, rfl, hL0, at1 _ _ _, ?_⟩
        refine qq _ ?_
        show (k.tr S && l.tr S) = _
        rw [c, Bool.true_and]
      · refine qq _ ?_
        show (k.tr S && l.tr S) = _
        rw [Bool.eq_false_iff.mpr c, Bool.false_and]
    | o =>
      refine ite2 (fun c => absurd (V.str.inj (of_decide_eq_true c)) (by decide +kernel)) (fun _ => ?_)
      refine ⟨.str ("or" : Str), rfl, rfl, _, rfl, ?_⟩
      refine ite2 (fun _ => ?_) (fun c => absurd (decide_eq_true rfl) c)
      refine ⟨.ref L, rfl, L, _, 0, _, rfl, rfl, hL0, at0 _ _, k.tr S, rfl, ?_⟩
      refine ite2 (fun c => ?_) (fun c => ?_)
      · refine qq _ ?_
        show (k.tr S || l.tr S) = _
        rw [c, Bool.true_or]
      · refine ⟨.ref L, rfl, L, _, 1, _, rfl, rfl, hL0, at1 _ _ _, ?_⟩
        refine qq _ ?_
        show (k.tr S || l.tr S) = _
        rw [Bool.eq_false_iff.mpr c, Bool.false_or]
    | th =>
      refine ite2 (fun c => absurd (V.str.inj (of_decide_eq_true c)) (by decide +kernel)) (fun _ => ?_)
      refine ⟨.str ("then" : Str), rfl, rfl, _, rfl, ?_⟩
      refine ite2 (fun c => absurd (V.str.inj (of_decide_eq_true c)) (by decide +kernel)) (fun _ => ?_)
      refine ⟨.ref L, rfl, L, _, 0, _, rfl, rfl, hL0, at0 _ _, k.tr S, rfl, _, rfl, ?_⟩
      refine ite2 (fun c => ?_) (fun c => ?_)
      · refine qq _ ?_
        show (!(k.tr S) || l.tr S) = _
        rw [c, Bool.true_or]
      · refine ⟨.ref L, rfl, L, _, 1, _, rfl, rfl, hL0, at1 _ _ _, ?_⟩
        refine qq _ ?_
        show (!(k.tr S) || l.tr S) = _
        rw [Bool.eq_false_iff.mpr c, Bool.false_or]
theorem all_isTrue (D : Df K mg "_is_true" sIsTrue ["f", "true_signs"] f fd) (I : Has P w K mg base 1 "inner_formulas" ["f"] (spInner K)) : ∀ n : Nat, Has P w K mg base (n + 1) "_is_true" ["f", "true_signs"] (spIsTrue K n)
  | 0 => by
    have no : ∀ vs H Q E, ¬ spIsTrue K 0 vs H Q E := fun vs H Q E h => by
      obtain ⟨v, g, a, kvs, S, _, _, h2, _⟩ := h
      omega
    exact D.has ⟨fun vs H Q E h => absurd h (no vs H Q E), fun A outer s H args us vs Q E _ _ _ _ h => absurd h (no vs H Q E)⟩
  | n + 1 => D.has (ok_isTrue D I (all_isTrue D I n))
/-! ### truth -/
theorem scTruth : FnScope ["f", "world", "n"] ["f", "world"] (defScope sTruth) := ⟨rfl, rfl, rfl, by decide +kernel, rfl, by decide +kernel, by decide +kernel⟩
end
end Lm
set_option Elab.async false
set_option linter.all false
set_option maxRecDepth 100000
set_option maxHeartbeats 2000000
/-! any(list) within an except suite; a lambda called in a try whose error's context is known -/
namespace Lm
open PySem PySem.Spec PyProof.Rows L2
section
variable {prog : Program} {w : World} {A : Around} {E : Value → Shared → Prop} {s : Shared}
/-- a list's iterator comes to its end while an exception is handled -/
theorem list_over_hot {it l xh : Addr} {i : Nat} {ws : Array Value} {Q : Option Value → Shared → Prop} (hot : HotX.HotAt A xh s.heap) (st : s.heap.IsListIter it l i) (sl : s.heap.IsList l ws) (gone : ws[i]? = none) (ne : xh ≠ it)
    (q : ∀ h', Heap.ExtBut it s.heap h' → Q none { s with heap := h' }) : wpAny (model prog w) A (pyNext (.ref it)) Q E s := by
  obtain ⟨oi, gi, ci, di⟩ := id st
  obtain ⟨ol, gl, _, nl, dl⟩ := sl
  obtain ⟨hh, ox, fx, gx, dx, cx⟩ := hot
  have look : ((it : Addr) ≠ xh) := fun z => ne z.symm
  unfold pyNext
  apply wpAny_bind
  apply wpAny_attempt
  refine wpAny_callSpecial?_slot (name := Str.ofString "__next__") st.typeIs slot_listiter_next ?_
  refine wpAny_call_entry slot_listiter_next st.typeIs entry_listiter_next ?_ (args_listiter_next _)
  show wpAny _ _ (field (.ref it) 0 >>= _) _ _ s
  apply wpAny_bind
  refine wpAny_field gi di (x := .ref l) rfl ?_
  show wpAny _ _ (if (Value.ref l == Value.none) = true then _ else _) _ _ s
  rw [if_neg (fun z : (Value.ref l == Value.none) = true => Bool.false_ne_true z)]
  show wpAny _ _ (field (.ref it) 1 >>= _) _ _ s
  apply wpAny_bind
  refine wpAny_field gi di (x := .int i 0) rfl ?_
  show wpAny _ _ (seqItems? (.ref l) >>= _) _ _ s
  apply wpAny_bind
  refine wpAny_seqItems gl dl ?_
  simp only [Int.toNat_natCast, gone]
  apply wpAny_bind
  apply wpAny_rule
  apply wpAny_bind
  refine wpAny_setField gi di (by simp) ?_
  show wpAny _ _ (newExc (.type "StopIteration") [] >>= _) _ _ _
  apply wpAny_bind
  simp only [newExc, newTuple]
  apply wpAny_bind
  refine wpAny_newObj_type ?_ (by size_fits)
  refine wpAny_bind (m := firstArgMember _ _) ?_
  refine wpAny_of_eq (a := Value.none) (by first | rfl | (simp only [firstArgMember]; rfl)) ?_
  refine wpAny_newObj_type ?_ (by size_fits)
  have kept : ∀ {h0 : Heap}, h0.get? xh = some ox → ∀ o1 o2, ((h0.push o1).push o2).get? xh = some ox := fun g o1 o2 => Heap.get?_push_of_some _ (Heap.get?_push_of_some _ g)
  have gx1 : (s.heap.update it (Obj.mapFields (·.setIfInBounds 0 Value.none))).get? xh = some ox := (Heap.get?_update_other _ _ look).trans gx
  refine HotX.raiseNew_hot (x1 := xh) ⟨hh, ox, fx, kept gx1 _ _, dx, cx⟩ ?_ (Heap.get?_push_size _ rfl) rfl (by first | (simp; done) | (simp; omega)) ?_
  · exact Nat.ne_of_lt (Heap.lt_size (Heap.get?_push_of_some _ gx1))
  apply wpAny_bind
  refine wpAny_isInstance (T := "StopIteration") (b := true) ⟨_, Heap.get?_update_self _ (Heap.get?_push_size _ rfl) rfl, rfl⟩ isSubtype_stop ?_
  refine wpAny_pure (q _ fun b o hb e => ?_)
  have e1 : (s.heap.update it (Obj.mapFields (·.setIfInBounds 0 Value.none))).get? b = some o := (Heap.get?_update_other _ _ (Ne.symm hb)).trans e
  have e2 := Heap.get?_push_of_some (h := s.heap.update it (Obj.mapFields (·.setIfInBounds 0 Value.none))) { cls := .type "tuple", data := .seq (#[] : Array Value) } e1
  first
    | exact (Heap.get?_update_other _ _ (Nat.ne_of_gt (Heap.lt_size e2))).trans (Heap.get?_push_of_some _ e2)
    | (rw [Heap.get?_update_other _ _ (Nat.ne_of_gt (Heap.lt_size (Heap.get?_push_of_some _ e1)))]; exact Heap.get?_push_of_some _ (Heap.get?_push_of_some _ e1))
theorem walks_hot {xh : Addr} (hh : A.handled = some (.ref xh)) (it l : Addr) (n1 : l ≠ it) (n2 : xh ≠ it) (ws : Array Value) :
    Walks prog w A it [it, l, xh] [it] ws.size (fun i v => ws[i]? = some v)
      (fun i h => (h.IsListIter it l i ∧ h.IsList l ws) ∧ ∃ (o : Obj) (fs : Array Value), h.get? xh = some o ∧ o.data = .fields fs ∧ fs[2]? = some .none) where
  sub := fun b hb => by
    rw [List.mem_singleton.mp hb]
    exact List.mem_cons_self
  frame := fun i h h' st k => by
    obtain ⟨⟨a, b⟩, o, fs, c, d⟩ := st
    exact ⟨⟨a.at fun u e => k it (by simp) u e, b.at fun u e => k l (by simp) u e⟩, o, fs, k xh (by simp) o c, d⟩
  item := fun i s Q E hi st q => by
    obtain ⟨⟨a, b⟩, o, fs, c, d⟩ := st
    have hv : ws[i]? = some ws[i] := by simp [hi]
    refine wpAny_pyNext_list_item a b hv fun h' a' sb => q _ h' s.toks hv ⟨⟨a', b.extBut sb.extBut n1⟩, o, fs, (sb.2 xh n2).trans c, d⟩ fun y u hy e => ?_
    exact sb.extBut y u (fun z => hy (List.mem_singleton.mpr z)) e
  done := fun s Q E st q => by
    obtain ⟨⟨a, b⟩, o, fs, c, d⟩ := st
    exact list_over_hot ⟨hh, o, fs, c, d⟩ a b (by simp) n2 fun h' x => q h' s.toks fun y u hy e => x y u (fun z => hy (List.mem_singleton.mpr z)) e
  self := fun i s Q E st q => wpAny_pyIter_listiter st.1.1 q
end
/-- any(xs), xs bools, within the suite of an except -/
theorem any_hot {X : Cx} (c : L2H.HotC X) : CallR X (.builtin "any") (rAny X.K) := by
  intro pins s σ H vs us Q I r h
  obtain ⟨a, bs, rfl, ha, q⟩ := h
  obtain ⟨its, rv, pl, _⟩ := I.list ha
  obtain ⟨p, ⟨hh, fs, e1, e2⟩, hp⟩ := c
  have gp : s.heap.get? p.1 = some p.2 := (I.pin p (List.mem_append_left _ hp)).1
  have np : p.1 ≠ s.heap.objs.size := Nat.ne_of_lt (Heap.lt_size gp)
  rw [Vals.ref1 r]
  have hb := rv.bls
  refine call_any_walk (iter_any pl.isList fun s₂ e st ne => ?_)
  subst e
  refine ⟨_, _, _, _, _, _, _, rfl, walks_hot (A := X.A.in1) hh _ a ne np its.toArray, ⟨st, p.2, fs, Heap.get?_push_of_some _ gp, e1, e2⟩, truth_bools hb, fun h' tk k => ?_⟩
  refine ⟨.bl _, H, I.kept fun b o e => k b o (fun z => ?_) (Heap.get?_push_of_some _ e), ?_, q⟩
  · have z' : b = s.heap.objs.size := List.mem_singleton.mp z
    rw [z'] at e
    exact Nat.lt_irrefl _ (Heap.lt_size e)
  · show Value.bool _ = Value.bool _
    rw [← L2.any_range, hb, List.size_toArray, List.length_map]
end Lm
set_option Elab.async false
set_option linter.all false
set_option maxRecDepth 100000
set_option maxHeartbeats 400000
namespace Lm
open PySem PySem.Spec PyProof.Rows L2
theorem arity_of {x : Str} {k : Int} (h : arOf x = some k) : (x = ("not" : Str) ∧ k = 1) ∨ ∃ b : Bw, x = b.txt ∧ k = 2 := by
  unfold arOf at h
  split at h
  · rename_i e; cases h; exact .inl ⟨e, rfl⟩
  · split at h
    · rename_i e; cases h; exact .inr ⟨.an, e, rfl⟩
    · split at h
      · rename_i e; cases h; exact .inr ⟨.o, e, rfl⟩
      · split at h
        · rename_i e; cases h; exact .inr ⟨.th, e, rfl⟩
        · cases h
theorem isF_back : ∀ (n : Nat) (d : PyData), isF n d = true → ∃ f : Fm, d = f.toD ∧ f.good ∧ f.dep ≤ n
  | 0, d, h => by rw [isF_zero] at h; cases h
  | n + 1, d, h => by
    cases d with
    | tuple ds =>
      cases ds with
      | nil => cases h
      | cons w ds =>
        cases w with
        | str x =>
          rw [isF] at h
          split at h
          · rename_i e
            subst e
            have h : sgOf ds = true := h
            cases ds with
            | nil => cases h
            | cons y t =>
              cases t with
              | cons _ _ => cases h
              | nil =>
                cases y with
                | int i =>
                  have h : (decide (0 ≤ i) && decide (i ≤ 99)) = true := h
                  rw [Bool.and_eq_true, decide_eq_true_eq, decide_eq_true_eq] at h
                  exact ⟨.sg i, rfl, h, (by show 1 ≤ n + 1; omega)⟩
                | _ => cases h
          · split at h
            · cases h
            · rename_i k e
              rw [Bool.and_eq_true, decide_eq_true_eq] at h
              obtain ⟨hl, ha⟩ := h
              rcases arity_of e with ⟨rfl, rfl⟩ | ⟨b, rfl, rfl⟩
              · match ds, hl, ha with
                | [y], _, ha =>
                  simp only [List.map_cons, List.map_nil, List.all_cons, List.all_nil, Bool.and_true, id] at ha
                  obtain ⟨f, rfl, g1, g2⟩ := isF_back n y ha
                  exact ⟨.no f, rfl, g1, (by show f.dep + 1 ≤ n + 1; omega)⟩
                | [], hl, _ => exact absurd hl (by show ¬ ((1 : Nat) : Int) = 1 + 1; decide)
                | _ :: _ :: t, hl, _ => exact absurd hl (by rw [List.length_cons, List.length_cons]; omega)
              · match ds, hl, ha with
                | [y, z], _, ha =>
                  simp only [List.map_cons, List.map_nil, List.all_cons, List.all_nil, Bool.and_true, id, Bool.and_eq_true] at ha
                  obtain ⟨f, rfl, g1, g2⟩ := isF_back n y ha.1
                  obtain ⟨g, rfl, k1, k2⟩ := isF_back n z ha.2
                  exact ⟨.bi b f g, rfl, ⟨g1, k1⟩, (by show max f.dep g.dep + 1 ≤ n + 1; omega)⟩
                | [], hl, _ => exact absurd hl (by show ¬ ((1 : Nat) : Int) = 1 + 2; decide)
                | [_], hl, _ => exact absurd hl (by show ¬ ((2 : Nat) : Int) = 1 + 2; decide)
                | _ :: _ :: _ :: t, hl, _ => exact absurd hl (by rw [List.length_cons, List.length_cons, List.length_cons]; omega)
        | _ => cases h
    | _ => cases h
/-! ### claims: the mirror of is_claim -/
mutual
def sizeD : PyData → Nat
  | .tuple ds => sizeT ds
  | _ => 0
def sizeT : List PyData → Nat
  | [] => 0
  | _ :: ds => 1 + sizeA ds
def sizeA : List PyData → Nat
  | [] => 0
  | d :: ds => sizeD d + sizeA ds
end
theorem sizeD_fm : ∀ f : Fm, sizeD f.toD = f.size
  | .sg i => by
    show 1 + (sizeD (.int i) + 0) = 1
    rfl
  | .no f => by
    show 1 + (sizeD f.toD + 0) = f.size + 1
    rw [sizeD_fm f]
    omega
  | .bi w f g => by
    show 1 + (sizeD f.toD + (sizeD g.toD + 0)) = f.size + g.size + 1
    rw [sizeD_fm f, sizeD_fm g]
    omega
/-- formulas, of so many words at most with those ahead -/
def okL : Nat → List PyData → Bool
  | _, [] => true
  | m, d :: ds => isF 12 d && (decide (m + sizeD d ≤ 60) && okL (m + sizeD d) ds)
def isC : PyData → Bool
  | .tuple [.list ds, .list es] => okL 0 (ds ++ es)
  | _ => false
def cD (L R : List Fm) : PyData := .tuple [.list (L.map Fm.toD), .list (R.map Fm.toD)]
def wordsS (fs : List Fm) : Nat := (fs.map Fm.size).sum
/-- formulas as the program takes them -/
def Gd (fs : List Fm) : Prop := ∀ f ∈ fs, f.good ∧ f.dep ≤ 12
theorem okL_back : ∀ (m : Nat) (ds : List PyData), okL m ds = true → ∃ fs : List Fm, ds = fs.map Fm.toD ∧ Gd fs ∧ (ds ≠ [] → m + wordsS fs ≤ 60)
  | m, [], _ => ⟨[], rfl, (fun _ h => nomatch h), fun h => absurd rfl h⟩
  | m, d :: ds, h => by
    rw [okL, Bool.and_eq_true, Bool.and_eq_true, decide_eq_true_eq] at h
    obtain ⟨f, rfl, g1, g2⟩ := isF_back 12 d h.1
    rw [sizeD_fm] at h
    obtain ⟨fs, rfl, gs, hw⟩ := okL_back _ ds h.2.2
    refine ⟨f :: fs, rfl, fun x hx => ?_, fun _ => ?_⟩
    · rcases List.mem_cons.mp hx with rfl | hx
      · exact ⟨g1, g2⟩
      · exact gs x hx
    · show m + (f.size + wordsS fs) ≤ 60
      by_cases e : fs = []
      · subst e
        show m + (f.size + 0) ≤ 60
        omega
      · have := hw (by simpa using e)
        omega
theorem okL_fms : ∀ (m : Nat) (fs : List Fm), Gd fs → m + wordsS fs ≤ 60 → okL m (fs.map Fm.toD) = true
  | m, [], _, _ => rfl
  | m, f :: fs, h, hw => by
    have hw : m + (f.size + wordsS fs) ≤ 60 := hw
    have hf := h f List.mem_cons_self
    show (isF 12 f.toD && (decide (m + sizeD f.toD ≤ 60) && okL (m + sizeD f.toD) (fs.map Fm.toD))) = true
    rw [sizeD_fm, isF_toD f 12 hf.1 hf.2, decide_eq_true (by omega), okL_fms _ fs (fun x hx => h x (List.mem_cons_of_mem _ hx)) (by omega)]
    rfl
theorem okL_many : ∀ (m : Nat) (fs : List Fm), ¬ m + wordsS fs ≤ 60 → m ≤ 60 → okL m (fs.map Fm.toD) = false
  | m, [], h, hm => absurd hm h
  | m, f :: fs, h, hm => by
    have h : ¬ m + (f.size + wordsS fs) ≤ 60 := h
    show (isF 12 f.toD && (decide (m + sizeD f.toD ≤ 60) && okL (m + sizeD f.toD) (fs.map Fm.toD))) = false
    rw [sizeD_fm]
    by_cases z : m + f.size ≤ 60
    · rw [okL_many (m + f.size) fs (by omega) z, Bool.and_false, Bool.and_false]
    · rw [decide_eq_false z, Bool.false_and, Bool.and_false]
theorem isC_back {d : PyData} (h : isC d = true) : ∃ L R : List Fm, d = cD L R ∧ Gd L ∧ Gd R ∧ wordsS L + wordsS R ≤ 60 := by
  unfold isC at h
  split at h
  · rename_i ds es
    obtain ⟨fs, e, g, hw⟩ := okL_back 0 _ h
    obtain ⟨L, R, e1, e2, e3⟩ := List.append_eq_map_iff.mp e
    subst e1
    refine ⟨L, R, by rw [← e2, ← e3]; rfl, fun f hf => g f (List.mem_append_left _ hf), fun f hf => g f (List.mem_append_right _ hf), ?_⟩
    by_cases z : ds ++ es = []
    · rw [z] at e
      have : L ++ R = [] := List.map_eq_nil_iff.mp e.symm
      rw [List.append_eq_nil_iff] at this
      rw [this.1, this.2]
      decide
    · have := hw z
      unfold wordsS at this ⊢
      rw [List.map_append, List.sum_append] at this
      omega
  · cases h
theorem isC_cD {L R : List Fm} (gl : Gd L) (gr : Gd R) : isC (cD L R) = decide (wordsS L + wordsS R ≤ 60) := by
  have e : wordsS (L ++ R) = wordsS L + wordsS R := by unfold wordsS; rw [List.map_append, List.sum_append]
  have g : Gd (L ++ R) := fun f hf => (List.mem_append.mp hf).elim (gl f) (gr f)
  show okL 0 (L.map Fm.toD ++ R.map Fm.toD) = _
  rw [← List.map_append]
  by_cases z : wordsS L + wordsS R ≤ 60
  · rw [decide_eq_true z]
    exact okL_fms 0 _ g (by omega)
  · rw [decide_eq_false z]
    exact okL_many 0 _ (by omega) (by decide)
theorem isC_len {ds : List PyData} (h : ¬ ds.length = 2) : isC (.tuple ds) = false := by
  unfold isC
  split
  · rename_i e
    injection e with e
    rw [e] at h
    exact absurd rfl h
  · rfl
theorem words_len (fs : List Fm) : fs.length ≤ wordsS fs := by
  induction fs with
  | nil => exact Nat.zero_le _
  | cons f fs ih =>
    show fs.length + 1 ≤ f.size + wordsS fs
    have : 1 ≤ f.size := by cases f <;> first | exact Nat.le_refl 1 | exact Nat.le_add_left 1 _
    omega
/-- of no more than a thousand on its sides, where it is a tuple of two lists -/
def short : PyData → Prop
  | .tuple [.list ds, .list es] => ds.length + es.length ≤ 1000
  | _ => True
/-- the same formulas stand in both -/
def SameF (L R : List Fm) : Prop := ∀ f, f ∈ L ↔ f ∈ R
end Lm
set_option Elab.async false
set_option linter.all false
set_option maxRecDepth 100000
set_option maxHeartbeats 2000000
namespace Lm
open PySem PySem.Spec PyProof.Rows L2
/-- what is known of an error's class -/
structure ErrK (K : PySem.W.Frag) (C : Addr) : Prop where
  ex : ExcC K C
  new : PySem.W.excIn K C [.type "ValueError", .type "Exception", .type "BaseException", .type "object"] "ValueError.__new__" = true
  kp : PySem.W.keepIn K (.ref C) = true
  ty : PySem.W.typeIn K (.ref C) = some (.type "type")
section
variable {P : Program} {w : World} {K : PySem.W.Frag} {mg : Str → Option Value} {base : Heap} {f : Addr} {fd : FuncData}
theorem fun_okN {x qual : Str} {st : Stmt} {N ps : List Str} {k : Nat} {sp : Sp} (F : Fun K x qual st f fd) (S : FnScope N ps (defScope st)) (len : ∀ vs H Q E, sp vs H Q E → vs.length = ps.length)
    (bd : ∀ (cv : Value) (A : Around) (outer : List Env) (s : Shared) (H : Hp) (vs : List V) (Q : VK) (E : XK), Room k (A.deeper (envOfC qual (defScope st) s.heap.objs.size f cv)) → sp vs H Q E →
      ∃ t, PSs (cxOf (L2N.CX P w) P w K mg base N qual (defScope st) f cv A outer s H E) (defBody st) t ∧ t { nx := fun _ H' => Q .non H', rt := Q } (L2.start N vs) H) : FnOk P w K mg base (L2N.CX P w) (k + 1) f fd ps sp := by
  obtain ⟨oc, od, kV, doc, pm, an, cv, ct, osl, rfl, lk, hcd⟩ := F.ex
  exact fn_of lk hcd S len fun A outer s H vs Q E hr h => bd cv A outer s H vs Q E hr h
/-- callable by its name; what it raises has no context -/
def HasN (P : Program) (w : World) (K : PySem.W.Frag) (mg : Str → Option Value) (base : Heap) (k : Nat) (x : Str) (ps : List Str) (sp : Sp) : Prop :=
  ∃ f fd, FnOk P w K mg base (L2N.CX P w) k f fd ps sp ∧ Binds K fd ps [] ∧ mg x = some (.ref f) ∧ PySem.W.keepIn K (.ref f) = true
theorem Df.hasN {k : Nat} {x : Str} {st : Stmt} {ps : List Str} {sp : Sp} (D : Df K mg x st ps f fd) (F : FnOk P w K mg base (L2N.CX P w) k f fd ps sp) : HasN P w K mg base k x ps sp := ⟨f, fd, F, D.bd, D.mg_, D.fn.kp⟩
/-- where it raises nothing -/
theorem HasN.calm {k : Nat} {x : Str} {ps : List Str} {sp sp0 : Sp} (h : HasN P w K mg base k x ps sp) (i : ∀ vs H Q E, sp0 vs H Q E → sp vs H Q E0) : Has P w K mg base k x ps sp0 := by
  obtain ⟨f, fd, F, b, m, kp⟩ := h
  refine ⟨f, fd, ⟨fun vs H Q E q => F.len vs H Q E0 (i _ _ _ _ q), fun A outer s H args us vs Q E hr e0 hb hv hs => codeAny_mono (F.run A outer s H args us vs Q E0 hr e0 hb hv (i _ _ _ _ hs)) fun r s' z => ?_⟩, b, m, kp⟩
  cases r with
  | error e =>
    obtain ⟨_, _, _, _, _, _, _, _, _, _, _, _, no⟩ := (show L2N.CX P w outer H s E0 e s' from z)
    exact no.elim
  | ok fl =>
    cases fl with
    | ret u => exact z
    | next => exact z
    | brk => exact z
    | cont => exact z
theorem pe_callN {X : Cx} {k : Nat} {x : Str} {ps : List Str} {sp : Sp} {W : WX} {E : XK} {p pos : Pos} {e : Expr} {es : List Expr} {t : TA} (h : HasN X.prog X.w X.K X.mg X.base k x ps sp) (tk : L2N.Takes X W) (tw : ∀ c d σ H, E c d H → W c d σ H) (hr : Room k X.A) (hg : Gl X x) (ha : PA X (e :: es) t)
    (hdb : (x == ("__debug__" : Str)) = false := by decide) (he : starEach (e :: es) X.env = (false, eval e X.env) :: starEach es X.env := by rfl) (hpl : (backTo pos (starEach es X.env)).any (·.1) = false := by rfl) : PE X (.Call (.Name x p) (e :: es) [] pos) (tCall sp [] E t) := by
  obtain ⟨f, fd, F, b, m, kp⟩ := h
  exact pe_call F hr hg m kp b .nil (L2N.passes_call tk tw) ha hdb he hpl
end
end Lm
set_option Elab.async false
set_option linter.all false
set_option maxRecDepth 100000
set_option maxHeartbeats 2000000
namespace Lm
open PySem PySem.Spec PyProof.Rows L2
/-! ### what is a formula, told back -/
/-! ### defs that raise -/
section
variable {P : Program} {w : World} {K : PySem.W.Frag} {mg : Str → Option Value} {base : Heap} {f : Addr} {fd : FuncData}
def spRefuse (K : PySem.W.Frag) (C0 : Addr) : Sp := fun vs H Q E => ∃ v d, vs = [v] ∧ Dp K H v d ∧ (isF 12 d = true → ∀ H', Same H H' → Q .non H') ∧ (isF 12 d = false → ∀ H', Same H H' → E (.ref C0) none H')
def spTruthN (K : PySem.W.Frag) (C0 : Addr) : Sp := fun vs H Q E => ∃ (v : V) (d : PyData) (a : Addr) (ns : List Int), vs = [v, .ref a] ∧ Dp K H v d ∧ SqL K H a (ns.map V.int) ∧ ns.length ≤ 1000 ∧
  (∀ g : Fm, d = g.toD → g.good → g.dep ≤ 12 → ∀ H', Same H H' → Q (.bl (g.tr fun i => decide (i ∈ ns))) H') ∧ (isF 12 d = false → ∀ H', Same H H' → E (.ref C0) none H')
theorem ok_refuse {C0 : Addr} (D : Df K mg "refuse_no_formula" sRefuse ["thing"] f fd) (G : Has P w K mg base 16 "is_formula" ["thing"] (spIsFormula K)) (B : ErrK K C0) (mB : mg "BadFormula" = some (.ref C0)) : FnOk P w K mg base (L2N.CX P w) 17 f fd ["thing"] (spRefuse K C0) := by
  refine fun_okN D.fn scRefuse (fun vs H Q E h => ?_) (fun cv A outer s H vs Q E hr h => ?_)
  · obtain ⟨v, d, rfl, _⟩ := h
    rfl
  obtain ⟨v, d, rfl, hd, q1, q2⟩ := h
  refine ⟨_, pss_one (ps_if (pt_not (pt_val (pe_callH G hr (by rfl) (pa_cons (pv 0) pa_nil)))) (pss_one (L2N.ps_raise rfl (L2N.takes_of rfl rfl rfl rfl) (L2N.pmk_own PySem.F.excBase_ValueError B.new mB B.kp (raises_own B.ex.hs B.ty) (by rfl)))) pss_nil), ?_⟩
  refine ⟨v, rfl, v, d, rfl, hd, fun H' e => ⟨isF 12 d, rfl, ?_⟩⟩
  cases c : isF 12 d with
  | true => exact iteF (q1 c H' e)
  | false => exact iteT (q2 c H' e)
theorem ok_truthN {C0 : Addr} (D : Df K mg "truth" sTruth ["f", "world"] f fd) (R : HasN P w K mg base 17 "refuse_no_formula" ["thing"] (spRefuse K C0)) (N : Has P w K mg base 1 "is_number" ["thing"] (spIsNum K)) (G : Has P w K mg base 14 "_is_true" ["f", "true_signs"] (spIsTrue K 13)) :
    FnOk P w K mg base (L2N.CX P w) 18 f fd ["f", "world"] (spTruthN K C0) := by
  refine fun_okN D.fn scTruth (fun vs H Q E h => ?_) (fun cv A outer s H vs Q E hr h => ?_)
  · obtain ⟨v, d, a, ns, rfl, _⟩ := h
    rfl
  obtain ⟨v, d, a, ns, rfl, hd, hs, hl, q1, q2⟩ := h
  refine ⟨_, pss_cons (ps_expr (pe_callN (E := E) R (L2N.takes_of rfl rfl rfl rfl) (fun _ _ _ _ h => h) hr (by rfl) (pa_cons (pv 0) pa_nil)))
    (pss_one (ps_ret (pe_callH G (hr.mono (by decide)) (by rfl) (pa_cons (pv 0) (pa_cons (pe_dc (own := [("n", 2)]) (g := gName 2) rfl scTruth.nd (pi_list (pv 1))
      (blkOk_by (N := ["f", "world", "n"]) (sc := defScope sTruth) (by decide +kernel)) (fun _ _ _ _ _ => pg_name (i := 2) scTruth.nd rfl (Or.inl rfl))
      (fun _ _ _ _ _ => pts_one (pt_val (pe_callH N (hr.mono (by decide)) (by rfl) (pa_cons (pv 2) pa_nil)))) (fun _ _ _ _ _ => pv 2) (fun _ _ _ _ _ => pe_bl)) pa_nil))))), ?_⟩
  refine ⟨v, rfl, v, d, rfl, hd, fun c H1 e1 => ?_, q2⟩
  obtain ⟨g, rfl, hg, h12⟩ := isF_back 12 d c
  have q := q1 g rfl hg h12
  refine ⟨v, rfl, .ref a, rfl, a, rfl, ⟨_, e1.seq hs⟩, fun L nL => ?_⟩
  refine dc_list (K := K) (a := a) (xs := ns.map V.int) (fun i H' => Same H1 H' ∧ ∃ kvs : List (Key × V), H' L = some (.dK kvs) ∧ kvs.length ≤ i ∧ i ≤ 1000 ∧ ∀ j : Int, (valV kvs (Sum.inl j)).isSome = decide (j ∈ ns.take i))
    ⟨same_new nL _, [], upd_same, Nat.le_refl _, by decide, fun j => by simp [valV_nil]⟩ (fun i H' _ p => p.1.seq (e1.seq hs)) (fun i x H' hi p => ?_) (fun H' p => ?_)
  · obtain ⟨e2, kvs, h2, l2, i2, m2⟩ := p
    obtain ⟨z, hz, rfl⟩ : ∃ z, ns[i]? = some z ∧ x = V.int z := by
      rw [List.getElem?_map] at hi
      cases e : ns[i]? with
      | none => rw [e] at hi; cases hi
      | some z => rw [e] at hi; exact ⟨z, rfl, (Option.some.inj hi).symm⟩
    have hi2 : i < ns.length := (List.getElem?_eq_some_iff.mp hz).1
    refine ⟨wipe1 _ _ _, ?_⟩
    refine ⟨.int z, rfl, .int z, .int z, rfl, .int z, true, rfl, ?_⟩
    refine ⟨.int z, rfl, kvs, Sum.inl z, rfl, h2, sl1001 (by omega), same_upd e2 nL, _, upd_same, ?_, by omega, fun j => ?_⟩
    · have := length_putK kvs (Sum.inl z) (V.bl true)
      omega
    · rw [valV_put, List.take_succ, hz]
      by_cases e : j = z
      · subst e
        rw [if_pos rfl]
        have : j ∈ ns.take i ++ (some j).toList := List.mem_append_right _ (by simp)
        rw [decide_eq_true this]
        rfl
      · have ne : ¬ (Sum.inl j : Key) = Sum.inl z := fun y => e (Sum.inl.inj y)
        rw [if_neg ne, m2 j]
        by_cases mm : j ∈ ns.take i
        · have : j ∈ ns.take i ++ (some z).toList := List.mem_append_left _ mm
          rw [decide_eq_true mm, decide_eq_true this]
        · have : ¬ j ∈ ns.take i ++ (some z).toList := fun y => by
            rcases List.mem_append.mp y with y | y
            · exact mm y
            · exact e (by simpa using y)
          rw [decide_eq_false mm, decide_eq_false this]
  · obtain ⟨e2, kvs, h2, _, _, m2⟩ := p
    rw [List.length_map, List.take_length] at m2
    refine ⟨v, g, L, kvs, fun j => decide (j ∈ ns), rfl, dp_same (e1.trans e2) _ _ hd, by omega, h2, m2, fun H'' e3 => ?_⟩
    exact q H'' (e1.trans (e2.trans e3))
end
end Lm
set_option Elab.async false
set_option linter.all false
set_option maxRecDepth 100000
set_option maxHeartbeats 2000000
namespace Lm
open PySem PySem.Spec PyProof.Rows L2
/-! ### a lambda whose errors have no context -/
/-- the lambda's context, in which what leaves it is told as L2N has it -/
abbrev nCx (X : Cx) (A : Around) (outer : List Env) (s0 : Shared) (H0 : Hp) (E : XK) (ls : Scope) (f co : Addr) : Cx :=
  (LamX.lamCx X A outer s0 H0 E ls f co).wish fun u z => wpAny (model X.prog X.w) (A.deeper (LamX.lamEnv X ls s0.heap.objs.size f co)) (leaving (LamX.lamEnv X ls s0.heap.objs.size f co) u)
    (fun _ y => L2N.CX X.prog X.w outer H0 s0 E u y) (fun v y => L2N.CX X.prog X.w outer H0 s0 E v y) z
theorem nCx_takes {X : Cx} {A : Around} {outer : List Env} {s0 : Shared} {H0 : Hp} {E : XK} {ls : Scope} {f co : Addr} : L2N.Takes (nCx X A outer s0 H0 E ls f co) (fun c d _ H => E c d H) :=
  L2N.takes_of rfl rfl rfl rfl
theorem nTakes0 {X : Cx} : L2N.Takes X (fun _ _ _ _ => False) := fun _ _ ⟨_, _, _, _, _, _, _, _, _, _, _, _, _, _, _, _, z⟩ => z.elim
section
variable {X : Cx} {pins : List (Addr × Obj)} {σ0 : L2.St} {H0 : Hp} {s0 : Shared}
/-- deed(), in the def that was handed the lambda -/
theorem pe_deed {CT : CXT} {ET : XK} {M : List Str} {qn : Str} {ds : Scope} {da f co : Addr} {dc pm ct : Value} {ag : Arguments} {bd : Expr} {ls : Scope} {k : Nat} {nm : Str} {pn : List (Addr × Obj)} {xe : Value → Shared → Prop} {W : WX} {E : XK} {tb : TE} {p1 p2 : Pos}
    (J : Inv X pins σ0 H0 s0) (L : LamX.LamS X.env.scope ls) (gf : s0.heap.get? f = some (PySem.W.kla_obj "<lambda>" (X.env.qual ++ "<lambda>") ag bd ls (cloFrom X.env.cells ls.names []) pm co ct)) (nf : H0 f = none) (ff : f ∉ frs X.stack)
    (bind : bindArgs (PySem.W.kla_fn "<lambda>" (X.env.qual ++ "<lambda>") ag bd ls (cloFrom X.env.cells ls.names []) pm (.ref co) ct) ⟨[], []⟩ = pure [])
    (tk : L2N.Takes ((cxOf CT X.prog X.w X.K X.mg X.base M qn ds da dc X.A X.stack s0 H0 ET).tr pn xe) W) (tw : ∀ c d σ' H', E c d H' → W c d σ' H') (room : Room (k + 1) (X.A.deeper (envOfC qn ds s0.heap.objs.size da dc)))
    (body : ∀ (A : Around) (outer : List Env) (s : Shared) (H : Hp), Room k (A.deeper (LamX.lamEnv X ls s.heap.objs.size f co)) → PE (nCx X A outer s H E ls f co) bd tb)
    (first : M[0]? = some nm) (vis : Vis ds nm) (d1 : (nm == ("__debug__" : Str)) = false) (d2 : (nm == ("__classdict__" : Str)) = false) :
    PE ((cxOf CT X.prog X.w X.K X.mg X.base M qn ds da dc X.A X.stack s0 H0 ET).tr pn xe) (.Call (.Name nm p1) [] [] p2)
      (fun σ H Q => σ[0]? = some (some (.ref f)) ∧ H co = some (LamX.CodeO co (X.env.qual ++ "<lambda>")) ∧ tb σ0 H Q) := by
  refine ⟨fun pz sz σz Hz Q Iz h => ?_⟩
  obtain ⟨z0, zc, zt⟩ := h
  refine wpAny_Call_Name_kw (thn ((pe_var (pos := p1) (i := 0) first vis d1 d2).run pz sz σz Hz (fun v H1 => v = .ref f ∧ H1 = Hz) Iz ⟨.ref f, z0, rfl, rfl⟩) fun u sa ⟨v, Ha, Ia, ra, qa⟩ => ?_)
  obtain ⟨rfl, rfl⟩ := qa
  obtain rfl : u = Value.ref f := ra
  have gfa := Ia.base.keep f _ gf nf ff (fun z => nomatch (show f ∈ ([] : List Addr) from z))
  refine PySem.W.callWith_F0 ⟨_, _, _, _, gfa⟩ ?_
  have change : Un (frs X.stack) [] H0 Ha s0.heap sa.heap := Ia.base
  obtain ⟨⟨oc, vs, t, hoc, hdc, hvc⟩, _, _⟩ := Ia.hok co _ zc
  have ran : codeAny (model X.prog X.w) (X.A.deeper (envOfC qn ds s0.heap.objs.size da dc)) (.call (.ref f) ⟨[], []⟩) (CR (L2N.CX X.prog X.w) (envOfC qn ds s0.heap.objs.size da dc :: X.stack) X.prog X.w Ha sa Q E) sa := by
    refine PySem.W.kla_callFunE room.depth gfa rfl L.co L.gen rfl ⟨co, oc, vs, t, rfl, hoc, hdc, hvc⟩ ?_
    rw [bind]
    refine wpAny_pure (wpAny_newFunctionEnv (fun y hy => (L.own y hy).2) (fun y hy => absurd hy (by simp)) (fun hb hn hs => ⟨Ia.nolimit.fresh _ hs, ?_⟩) L.kind)
    show codeAny _ _ (.expr bd (LamX.lamEnv X ls sa.heap.objs.size f co)) _ _
    have keeps : ∀ b o, sa.heap.get? b = some o → hb.get? b = some o := fun b o e => hs.extBut b o (Nat.ne_of_lt (Heap.lt_size e)) (Heap.get?_push_of_some _ e)
    have J2 := (LamX.lam_start2 (E := E) (f := f) (c' := co) (tk := sa.toks + ([] : List (Str × Value)).length) J L Ia.env0 room.hd change hn keeps).wish (fun u z => wpAny (model X.prog X.w) ((X.A.deeper (envOfC qn ds s0.heap.objs.size da dc)).deeper (LamX.lamEnv X ls sa.heap.objs.size f co)) (leaving (LamX.lamEnv X ls sa.heap.objs.size f co) u)
      (fun _ y => L2N.CX X.prog X.w (envOfC qn ds s0.heap.objs.size da dc :: X.stack) Ha sa E u y) (fun v y => L2N.CX X.prog X.w (envOfC qn ds s0.heap.objs.size da dc :: X.stack) Ha sa E v y) z)
    refine PySem.W.kla_codeExpr (wpAny_mono ((body _ _ sa Ha (room.deeper _)).run [] _ σ0 Ha Q J2 zt) (fun v sb hq => ?_) fun e sb hq => hq)
    obtain ⟨wv, Hb, Jb, rv, q⟩ := hq
    exact ⟨wv, Hb, Jb.os, Jb.bare, Jb.base, Jb.hok, rv, q⟩
  refine wpAny_call (codeAny_mono ran fun r sb hq => ?_)
  cases r with
  | error e => exact L2N.passes_call tk tw pz σz Ha sa e sb Ia hq
  | ok fl =>
    cases fl with
    | ret u => exact Ia.after hq
    | next => exact False.elim hq
    | brk => exact False.elim hq
    | cont => exact False.elim hq
end
/-! ### the refusals' classes -/
/-- .. of the one that is due, beside LineError and the others -/
structure RefdK (K : PySem.W.Frag) (mg : Str → Option Value) (CL C0 C1 C2 C3 : Addr) : Prop where
  main : ErrK K C0
  cl : PySem.W.exmOne K (.ref C0) (.ref CL) = some true
  k0 : PySem.W.kitOne K (.ref C0) (.ref C0) = some true
  kv : PySem.W.kitOne K (.ref C0) (.type "ValueError") = some true
  k1 : PySem.W.kitOne K (.ref C0) (.ref C1) = some false
  k2 : PySem.W.kitOne K (.ref C0) (.ref C2) = some false
  k3 : PySem.W.kitOne K (.ref C0) (.ref C3) = some false
  mL : mg "LineError" = some (.ref CL)
  m0 : mg "BadClaim" = some (.ref C0)
  m1 : mg "BadFormula" = some (.ref C1)
  m2 : mg "BadChain" = some (.ref C2)
  m3 : mg "NoLemma" = some (.ref C3)
  isinstance : mg "isinstance" = none
  any : mg "any" = none
  ve : mg "ValueError" = none
theorem bt_ve : bootBuiltins "ValueError" = some (.type "ValueError") := by first | exact PyProof.Rows.boot_ValueError | decide +kernel
theorem scRefd : FnScope ["_law_deed", "e", "_law_others"] ["_law_deed"] (defScope sRefused) := ⟨rfl, rfl, rfl, by decide +kernel, rfl, by decide +kernel, by decide +kernel⟩
/-- _law_refused(lambda: ..): False where nothing is raised, True where the error is of the class C0 -/
def tRefd (C0 : Addr) (T : List (Addr × Str)) (t : XK → TE) : TE := fun σ H Q => LamX.Tabs T H ∧ ∀ H1, LamX.ExtN H H1 → LamX.Tabs T H1 → t (fun cls d H' => cls = .ref C0 ∧ d = none ∧ ∀ H2, Same H' H2 → Q (.bl true) H2) σ H1 fun _ H' => Q (.bl false) H'
theorem pe_refused {X : Cx} {g c P CL C0 C1 C2 C3 : Addr} {gd : FuncData} {k : Nat} {ag : Arguments} {bd : Expr} {ls : Scope} {lpos p pos : Pos} {t : XK → TE} (D : Df X.K X.mg "_law_refused" sRefused ["_law_deed"] g gd) (R : RefdK X.K X.mg CL C0 C1 C2 C3) (hg : Gl X "_law_refused") {ql : Str} (hql : X.env.qual = ql)
    (TB : LamX.TabB X.base X.mg c P) (hcode : X.env.code = .ref c) (hr : Room (k + 2) X.A) (L : LamX.LamS X.env.scope ls) (hdef : defaultsOf ag X.env = ([], []))
    (hbind : ∀ (q : Str) (cl : List (Str × Addr)) (pm cv ctv : Value), bindArgs (PySem.W.kla_fn "<lambda>" q ag bd ls cl pm cv ctv) ⟨[], []⟩ = pure [])
    (hbody : ∀ (A : Around) (outer : List Env) (s : Shared) (H : Hp) (E : XK) (f co : Addr), Room k (A.deeper (LamX.lamEnv X ls s.heap.objs.size f co)) → PE (nCx X A outer s H E ls f co) bd (t E)) :
    PE X (.Call (.Name "_law_refused" p) [.Lambda ag bd ls lpos] [] pos) (tRefd C0 [(P, ql ++ "<lambda>")] t) := by
  subst hql
  obtain ⟨oc, od, kV, doc, pm, an, cdv, ct, osl, rfl, lk, hcd⟩ := D.fn.ex
  refine ⟨fun pins s σ0 H Q I h => ?_⟩
  obtain ⟨hT, h⟩ := h
  refine wpAny_Call_Name_kw (ld_glob I hg D.mg_ ?_ (by decide))
  refine PySem.W.callWith_K (h₀ := X.base) I.ok.mod.kin D.fn.kp ?_ (by rfl) (by rfl)
  show wpAny _ _ (spliced ((false, eval (.Lambda ag bd ls lpos) X.env) :: backTo pos (starEach [] X.env))) _ _ s
  refine Calls.spliced_cons (LamX.lam_make2 I TB hcode (List.mem_singleton.mpr rfl) (fun y hy _ => by rw [List.mem_singleton.mp hy]) hT hdef (L.has I.ok) fun f co pm' ctv H1 s1 I1 eN T1 gf nf ff hco => ?_)
  refine Calls.spliced_nil ⟨I1.kIn, ?_⟩
  have ran : codeAny (model X.prog X.w) X.A (.call (.ref g) ⟨[.ref f], []⟩) (CR CX0 X.stack X.prog X.w H1 s1 Q E0) s1 := by
    refine LamX.run_ofS (N := ["_law_deed", "e", "_law_others"]) (ps := ["_law_deed"]) (us := [.ref f]) (vs := [.ref f]) lk hcd scRefd hr I1.env0 (D.bd s1 [.ref f] I1.kIn rfl) (.cons rfl .nil) rfl fun room => ?_
    refine ⟨_, (pss_cons (L2N.ps_try_as (X := (cxOf CX0 X.prog X.w X.K X.mg X.base ["_law_deed", "e", "_law_others"] "_law_refused" (defScope sRefused) g cdv X.A X.stack s1 H1 E0).nox) (i := 1) (c := .ref CL)
      (tb := fun W D' σ H' => ∃ E : XK, (∀ cl d σ' H', E cl d H' → W cl d σ' H') ∧ σ[0]? = some (some (.ref f)) ∧ H' co = some (LamX.CodeO co (X.env.qual ++ "<lambda>")) ∧ t E σ0 H' fun _ H2 => D'.nx σ H2)
      (ts := fun a cls d D' σ H' => cls = .ref C0 ∧ d = none ∧ (σ.length = 3 → σ[1]? = some (some (.ref a))) ∧ ∀ H2, Same H' H2 → D'.rt (.bl true) H2)
      rfl rfl scRefd.nd rfl rfl ⟨by rfl, by decide, .inl R.mL⟩ nTakes0 (fun W pn xe tk _ => ?_) (fun a oe cls d pn hz hf => ?_)) (pss_one (ps_ret pe_bl))).nox, ?_⟩
    · refine ⟨fun pz sz σz Hz Dz Iz h' => ?_⟩
      obtain ⟨E, tw, h1, h2, h3⟩ := h'
      exact (pss_one (ps_expr (pe_deed (CT := CX0) (ET := E0) (M := ["_law_deed", "e", "_law_others"]) (qn := "_law_refused") (ds := defScope sRefused) (nm := "_law_deed") I1 L gf nf ff (hbind _ _ _ _ _) tk tw room (fun A outer s H r => hbody A outer s H E f co r) rfl (.inl rfl) (by decide) (by decide)))).run pz sz σz Hz Dz Iz ⟨h1, h2, h3⟩
    · refine ⟨fun pz sz σz Hz Dz Iz h' => ?_⟩
      obtain ⟨rfl, rfl, h1, h2⟩ := h'
      obtain ⟨vs, hv⟩ := hf
      have hot : L2H.HotC ((cxOf CX0 X.prog X.w X.K X.mg X.base ["_law_deed", "e", "_law_others"] "_law_refused" (defScope sRefused) g cdv X.A X.stack s1 H1 E0).nox.suite a ((a, oe) :: pn)) := ⟨(a, oe), ⟨rfl, vs, hv, hz.2.2 vs hv⟩, List.mem_cons_self⟩
      have isE := call_isE (X := (cxOf CX0 X.prog X.w X.K X.mg X.base ["_law_deed", "e", "_law_others"] "_law_refused" (defScope sRefused) g cdv X.A X.stack s1 H1 E0).nox) (a := a) (oe := oe) (pn := pn) R.main.ex hz.zc ⟨vs, hv⟩
      have len : σz.length = 3 := Iz.len
      refine (pss_cons (ps_set (i := 2) scRefd.nd rfl (.inl rfl) (pe_lst (pa_cons (pe_callB isE (by rfl) R.isinstance bt_isinstance (pa_cons (pv 1) (pa_cons (pe_glob (v := .ref C1) (by rfl) R.m1 rfl) pa_nil)))
        (pa_cons (pe_callB isE (by rfl) R.isinstance bt_isinstance (pa_cons (pv 1) (pa_cons (pe_glob (v := .ref C2) (by rfl) R.m2 rfl) pa_nil)))
        (pa_cons (pe_callB isE (by rfl) R.isinstance bt_isinstance (pa_cons (pv 1) (pa_cons (pe_glob (v := .ref C3) (by rfl) R.m3 rfl) pa_nil))) pa_nil)))))
        (pss_one (ps_ret (pe_and (pe_callB isE (by rfl) R.isinstance bt_isinstance (pa_cons (pv 1) (pa_cons (pe_glob (v := .ref C0) (by rfl) R.m0 rfl) pa_nil)))
          (pe_and (pe_callB isE (by rfl) R.isinstance bt_isinstance (pa_cons (pv 1) (pa_cons (pe_bltn (v := .ty "ValueError") (by rfl) R.ve bt_ve rfl) pa_nil)))
          (pe_one (pe_not (pe_callB (any_hot hot) (by rfl) R.any bt_any (pa_cons (pv 2) pa_nil))))))))).run pz sz σz Hz Dz Iz ?_
      obtain ⟨x0, x1, x2, rfl⟩ : ∃ x0 x1 x2, σz = [x0, x1, x2] := by
        match σz, len with
        | [x0, x1, x2], _ => exact ⟨x0, x1, x2, rfl⟩
      have h1 := h1 len
      cases Option.some.inj h1
      refine ⟨.ref a, rfl, .ref C1, .ref C1, false, rfl, fun u r => r, R.k1, .ref a, rfl, .ref C2, .ref C2, false, rfl, fun u r => r, R.k2, .ref a, rfl, .ref C3, .ref C3, false, rfl, fun u r => r, R.k3, (by show 3 ≤ sizeLine; exact sl1000 (by decide)), fun q nq => ?_⟩
      refine ⟨.ref a, rfl, .ref C0, .ref C0, true, rfl, fun u r => r, R.k0, true, rfl, ?_⟩
      refine iteT ?_
      refine ⟨.ref a, rfl, .ty "ValueError", .type "ValueError", true, rfl, fun u r => r, R.kv, true, rfl, ?_⟩
      refine iteT ?_
      exact ⟨.ref q, rfl, q, [false, false, false], rfl, SqL.of upd_same, false, rfl, h2 _ (same_new nq _)⟩
    · refine ⟨fun cls d H' => cls = .ref C0 ∧ d = none ∧ ∀ H2, Same H' H2 → Q (.bl true) H2, fun cl d σ' H' e => ?_, rfl, hco, h H1 eN T1⟩
      obtain ⟨rfl, rfl, e⟩ := e
      refine ⟨true, R.cl, fun _ a _ => ⟨rfl, rfl, fun l => ?_, e⟩, fun z => nomatch z⟩
      rw [List.length_set] at l
      rw [List.getElem?_set_self (by omega)]
  refine wpAny_call (codeAny_mono ran fun r s2 hq => ?_)
  cases r with
  | error e => exact (show False from hq).elim
  | ok fl =>
    cases fl with
    | ret u => exact I1.after hq
    | next => exact False.elim hq
    | brk => exact False.elim hq
    | cont => exact False.elim hq
end Lm
set_option Elab.async false
set_option linter.all false
set_option maxRecDepth 100000
set_option maxHeartbeats 400000
namespace Lm
open PySem PySem.Spec PyProof.Rows L2
def spWords (K : PySem.W.Frag) (n : Nat) : Sp := fun vs H Q _ => ∃ (v : V) (f : Fm), vs = [v] ∧ Dp K H v f.toD ∧ f.dep < n ∧ ∀ H', Same H H' → Q (.int (f.size : Int)) H'
def spIsClaim (K : PySem.W.Frag) : Sp := fun vs H Q _ => ∃ (v : V) (d : PyData), vs = [v] ∧ Dp K H v d ∧ short d ∧ ∀ H', Same H H' → Q (.bl (isC d)) H'
def spNoClaim (K : PySem.W.Frag) (C0 : Addr) : Sp := fun vs H Q E => ∃ (v : V) (d : PyData), vs = [v] ∧ Dp K H v d ∧ short d ∧ (isC d = true → ∀ H', Same H H' → Q .non H') ∧ (isC d = false → ∀ H', Same H H' → E (.ref C0) none H')
theorem sum_sizes (f : Fm) : 1 + ((f.kids.map fun k => (k.size : Int)).sum) = (f.size : Int) := by
  cases f with
  | sg i => rfl
  | no f => show 1 + ((f.size : Int) + 0) = ((f.size + 1 : Nat) : Int); omega
  | bi w f g => show 1 + ((f.size : Int) + ((g.size : Int) + 0)) = ((f.size + g.size + 1 : Nat) : Int); omega
section
variable {P : Program} {w : World} {K : PySem.W.Frag} {mg : Str → Option Value} {base : Heap} {f : Addr} {fd : FuncData}
theorem scWords : FnScope ["f", "inner"] ["f"] (defScope sWords) := ⟨rfl, rfl, rfl, by decide +kernel, rfl, by decide +kernel, by decide +kernel⟩
theorem ok_words {n : Nat} (D : Df K mg "words" sWords ["f"] f fd) (ms : mg "sum" = none) (I : Has P w K mg base 1 "inner_formulas" ["f"] (spInner K)) (G : Has P w K mg base (n + 1) "words" ["f"] (spWords K n)) : FnOk P w K mg base CX0 (n + 2) f fd ["f"] (spWords K (n + 1)) := by
  refine D.fn.ok scWords (fun vs H Q E h => ?_) (fun cdv A outer s H vs Q E hr h => ?_)
  · obtain ⟨v, g, rfl, _⟩ := h
    rfl
  obtain ⟨v, g, rfl, hd, hn, q⟩ := h
  have hr1 : Room 1 (A.deeper (envOfC "words" (defScope sWords) s.heap.objs.size f cdv)) := hr.mono (by omega)
  refine ⟨_, pss_one (ps_ret (pe_op op_add pe_int (pe_callB (cr_sum rfl) (by rfl) ms bt_sum (pa_cons (pe_lc (own := [("inner", 1)]) (g := gName 1) (tt := tYes) rfl scWords.nd (pi_tup (pe_callH I hr1 (by rfl) (pa_cons (pv 0) pa_nil)))
    (blkOk_by (N := ["f", "inner"]) (sc := defScope sWords) (by decide +kernel)) (fun _ _ _ _ _ => pg_name (i := 1) scWords.nd rfl (Or.inl rfl)) (fun _ _ _ _ _ => pts_nil)
    (fun _ _ _ _ _ => pe_callH G hr (by rfl) (pa_cons (pv 1) pa_nil))) pa_nil)))), ?_⟩
  refine ⟨v, rfl, v, g, rfl, hd, fun r H1 ks e1 hk hks => ⟨r, rfl, ⟨ks, hk⟩, fun L nL => ?_⟩⟩
  have hkl : ks.length = g.kids.length := by rw [dpAll_len hks, List.length_map]
  refine lc_map_tup (K := K) (a := r) (xs := ks) (ys := (g.kids.map fun k => (k.size : Int)).map V.int) (j := 1) hk nL (by rw [List.length_map, List.length_map, hkl]) (by rw [List.length_map, List.length_map]; exact sl1000 (Nat.le_trans (kids_len g) (by decide))) (fun i y b H' hi hb e2 Q' q' => ?_) (fun H' e2 hL => ?_)
  · obtain ⟨k, hk1, hy⟩ := kid_get hks hi
    have dl := kid_dep (List.mem_of_getElem? hk1)
    have eb : b = .int (k.size : Int) := by
      rw [List.getElem?_map, List.getElem?_map, hk1] at hb
      exact (Option.some.inj hb).symm
    refine ⟨y, rfl, y, k, rfl, dp_same e2 _ _ hy, by omega, fun H'' e3 => ?_⟩
    rw [← eb]
    exact q' H'' e3
  · refine ⟨L, _, rfl, SqL.of hL, 1, _, rfl, rfl, ?_⟩
    dsimp only
    rw [sum_sizes]
    exact q H' (e1.trans e2)
theorem all_words (D : Df K mg "words" sWords ["f"] f fd) (ms : mg "sum" = none) (I : Has P w K mg base 1 "inner_formulas" ["f"] (spInner K)) : ∀ n : Nat, Has P w K mg base (n + 1) "words" ["f"] (spWords K n)
  | 0 => by
    have no : ∀ vs H Q E, ¬ spWords K 0 vs H Q E := fun vs H Q E h => by
      obtain ⟨v, g, _, _, h2, _⟩ := h
      omega
    exact D.has ⟨fun vs H Q E h => absurd h (no vs H Q E), fun A outer s H args us vs Q E _ _ _ _ h => absurd h (no vs H Q E)⟩
  | n + 1 => D.has (ok_words D ms I (all_words D ms I n))
/-! ### is_claim -/
theorem scIsClaim : FnScope ["thing", "left", "right", "many", "f"] ["thing"] (defScope sIsClaim) := ⟨rfl, rfl, rfl, by decide +kernel, rfl, by decide +kernel, by decide +kernel⟩
theorem ok_isClaim {t : Tok} (D : Df K mg "is_claim" sIsClaim ["thing"] f fd) (B : Blt mg) (mw : mg "MOST_WORDS" = some (.int 60 t)) (IF : Has P w K mg base 16 "is_formula" ["thing"] (spIsFormula K)) (WO : Has P w K mg base 14 "words" ["f"] (spWords K 13)) : FnOk P w K mg base CX0 17 f fd ["thing"] (spIsClaim K) := by
  refine D.fn.ok scIsClaim (fun vs H Q E h => ?_) (fun cdv A outer s H vs Q E hr h => ?_)
  · obtain ⟨v, d, rfl, _⟩ := h
    rfl
  obtain ⟨v, d, rfl, hd, hsh, q0⟩ := h
  have q : ∀ (b : Bool) (H' : Hp), Same H H' → isC d = b → Q (.bl b) H' := fun b H' e h => h ▸ q0 H' e
  have r14 : Room 14 (A.deeper (envOfC "is_claim" (defScope sIsClaim) s.heap.objs.size f cdv)) := hr.mono (by decide)
  refine ⟨_, pss_cons (ps_if (PW.pt (pw_or (pt_not (pt_val (pe_callB call_isi (by rfl) B.isinstance bt_isinstance (pa_cons (pv 0) (pa_cons (pe_bltn (v := .ty "tuple") (by rfl) B.tuple bt_tuple rfl) pa_nil))))) (pw_or1 (pt_cmpR op_ne (pe_callB call_len_seq (by rfl) B.len PySem.boot_len (pa_cons (pv 0) pa_nil)) pe_int (nomark _))))) (pss_one (ps_ret pe_bl)) pss_nil)
    (pss_cons (ps_asg (pv 0) (pg_tup rfl (pgs_cons (pg_name (i := 1) scIsClaim.nd rfl (.inl rfl)) (pgs_cons (pg_name (i := 2) scIsClaim.nd rfl (.inl rfl)) pgs_nil))))
    (pss_cons (ps_if (PW.pt (pw_or (pt_not (pt_val (pe_callB call_isi (by rfl) B.isinstance bt_isinstance (pa_cons (pv 1) (pa_cons (pe_bltn (v := .ty "list") (by rfl) B.list bt_list rfl) pa_nil))))) (pw_or1 (pt_not (pt_val (pe_callB call_isi (by rfl) B.isinstance bt_isinstance (pa_cons (pv 2) (pa_cons (pe_bltn (v := .ty "list") (by rfl) B.list bt_list rfl) pa_nil)))))))) (pss_one (ps_ret pe_bl)) pss_nil)
    (pss_cons (ps_set (i := 3) scIsClaim.nd rfl (.inl rfl) pe_int)
    (pss_cons (ps_for PassesOwn.never rfl (pi_list (pe_op op_catL (pv 1) (pv 2))) (pg_name (i := 4) scIsClaim.nd rfl (.inl rfl))
      (pss_cons (ps_if (pt_not (pt_val (pe_callH IF (hr.mono (by decide)) (by rfl) (pa_cons (pv 4) pa_nil)))) (pss_one (ps_ret pe_bl)) pss_nil)
      (pss_cons (ps_aug (i := 3) scIsClaim.nd rfl (.inl rfl) (pe_callH WO r14 (by rfl) (pa_cons (pv 4) pa_nil)) ip_add)
      (pss_one (ps_if (pt_cmpR op_gt (pv 3) (pe_glob (v := .int 60) (by rfl) mw ⟨_, rfl⟩) (nomark _)) (pss_one (ps_ret pe_bl)) pss_nil)))))
    (pss_one (ps_ret pe_bl)))))), ?_⟩
  refine ⟨v, rfl, v, .ty "tuple", _, _, _, rfl, .ty "tuple", tyx_of hd, kit_tuple hd, isTu d, rfl, ?_⟩
  refine ite2 (fun c1 => ?_) (fun c1 => ?_)
  · refine q false H (Same.refl H) ?_
    cases d <;> first | rfl | exact (Bool.false_ne_true c1).elim
  cases hd with
  | tup hs ha =>
    rename_i a xs ds
    have hlen := dpAll_len ha
    refine ⟨.ref a, rfl, a, xs, rfl, .inr hs, rfl, _, rfl, ?_⟩
    refine ite2 (fun c2 => ?_) (fun c2 => ?_)
    · refine q false H (Same.refl H) ?_
      have ne : ¬ xs.length = 2 := fun e => by rw [e] at c2; exact absurd c2 (by decide)
      exact isC_len (by omega)
    · have e2 : xs.length = 2 := by
        by_cases z : xs.length = 2
        · exact z
        · exfalso
          apply c2
          have z' : ¬ V.int ((xs.length : Nat) : Int) = V.int 2 := fun y => z (by have := V.int.inj y; omega)
          show (!decide (V.int ((xs.length : Nat) : Int) = V.int 2)) = true
          rw [decide_eq_false z']
          rfl
      obtain ⟨x, y, rfl⟩ : ∃ x y, xs = [x, y] := by
        match xs, e2 with
        | [x, y], _ => exact ⟨x, y, rfl⟩
      cases ha with
      | cons hx ha =>
        cases ha with
        | cons hy ha =>
          cases ha
          rename_i dx dy
          refine ⟨.ref a, rfl, a, [x, y], rfl, hs, rfl, x, [y], rfl, y, [], rfl, rfl, ?_⟩
          refine ⟨x, rfl, x, .ty "list", _, _, _, rfl, .ty "list", tyx_of hx, kit_list hx, isLi dx, rfl, ?_⟩
          refine ite2 (fun c3 => ?_) (fun c3 => ?_)
          · refine q false H (Same.refl H) ?_
            cases dx <;> first | rfl | exact (Bool.false_ne_true c3).elim
          refine ⟨y, rfl, y, .ty "list", _, _, _, rfl, .ty "list", tyx_of hy, kit_list hy, isLi dy, rfl, ?_⟩
          refine ite2 (fun c4 => ?_) (fun c4 => ?_)
          · refine q false H (Same.refl H) ?_
            cases dx <;> first
              | rfl
              | (cases dy <;> first | rfl | exact (Bool.false_ne_true c4).elim)
          cases hx with
          | lst h1 a1 =>
            cases hy with
            | lst h2 a2 =>
              rename_i b1 zs1 ds1 b2 zs2 ds2
              have hsh : ds1.length + ds2.length ≤ 1000 := hsh
              have n1 := dpAll_len a1
              have n2 := dpAll_len a2
              refine ⟨.ref b1, rfl, .ref b2, rfl, b1, b2, zs1, zs2, rfl, rfl, h1, h2, sl1000 (by omega), fun p np => ?_⟩
              have s1 := same_new np (HO.lst (zs1 ++ zs2))
              have aa := dpAll_same s1 _ _ (dpAll_app a1 a2)
              refine ⟨p, rfl, ⟨_, SqL.of upd_same⟩, ?_⟩
              have whole : isC (.tuple [.list ds1, .list ds2]) = okL 0 (ds1 ++ ds2) := rfl
              refine for_list (K := K) (a := p) (xs := zs1 ++ zs2) (fun i σ H' => ∃ (m : Nat) (x4 : Option V), σ = [some (.ref a), some (.ref b1), some (.ref b2), some (.int (m : Int)), x4] ∧ Same (upd H p (.lst (zs1 ++ zs2))) H' ∧ okL 0 (ds1 ++ ds2) = okL m ((ds1 ++ ds2).drop i))
                ⟨0, none, rfl, Same.refl _, rfl⟩ (fun i σ H' _ ⟨_, _, _, e, _⟩ => SqL.of (e _ _ upd_same)) ?_ ?_
              · rintro i z σ H' hi ⟨m, x4, rfl, e1, hm⟩
                obtain ⟨dz, hdz, hz⟩ := dpAll_get aa hi
                have hz' := dp_same e1 _ _ hz
                have dr : (ds1 ++ ds2).drop i = dz :: (ds1 ++ ds2).drop (i + 1) := by
                  have lt := (List.getElem?_eq_some_iff.mp hdz).1
                  rw [List.drop_eq_getElem_cons lt]
                  have e := (List.getElem?_eq_some_iff.mp hdz).2
                  rw [e]
                rw [dr, okL] at hm
                refine ⟨z, rfl, z, dz, rfl, hz', fun H2 e2 => ⟨isF 12 dz, rfl, ?_⟩⟩
                cases c5 : isF 12 dz with
                | false =>
                  refine iteT (q false H2 (s1.trans (e1.trans e2)) ?_)
                  rw [whole, hm, c5]
                  rfl
                | true =>
                  refine iteF ?_
                  rw [c5, Bool.true_and] at hm
                  obtain ⟨g, rfl, g1, g2⟩ := isF_back 12 dz c5
                  rw [sizeD_fm] at hm
                  refine ⟨.int (m : Int), rfl, z, rfl, z, g, rfl, dp_same e2 _ _ hz', by omega, fun H3 e3 => ⟨(m : Int), (g.size : Int), rfl, rfl, ?_⟩⟩
                  refine ⟨_, rfl, (m : Int) + (g.size : Int), 60, rfl, rfl, _, rfl, ?_⟩
                  have eH := s1.trans (e1.trans (e2.trans e3))
                  refine ite2 (fun c6 => ?_) (fun c6 => ?_)
                  · have c6 : 60 < (m : Int) + (g.size : Int) := of_decide_eq_true c6
                    refine q false H3 eH ?_
                    rw [whole, hm, decide_eq_false (by omega), Bool.false_and]
                  · have c6 : ¬ 60 < (m : Int) + (g.size : Int) := fun z => c6 (decide_eq_true z)
                    rw [decide_eq_true (by omega), Bool.true_and] at hm
                    exact ⟨m + g.size, some z, rfl, e1.trans (e2.trans e3), hm⟩
              · rintro σ H' ⟨m, x4, rfl, e1, hm⟩
                refine q true H' (s1.trans e1) ?_
                rw [whole, hm, List.length_append, n1, n2, ← List.length_append, List.drop_length]
                rfl
            | _ => exact absurd rfl c4
          | _ => exact absurd rfl c3
  | _ => exact absurd rfl c1
end
end Lm
set_option Elab.async false
set_option linter.all false
set_option maxRecDepth 100000
set_option maxHeartbeats 400000
namespace Lm
open PySem PySem.Spec PyProof.Rows L2
theorem short_cD {L R : List Fm} (h : wordsS L + wordsS R ≤ 60) : short (cD L R) := by
  show (L.map Fm.toD).length + (R.map Fm.toD).length ≤ 1000
  rw [List.length_map, List.length_map]
  have := words_len L
  have := words_len R
  omega
theorem spell_same {L R : List Fm} (gl : Gd L) (gr : Gd R) : (∀ y, y ∈ L.map spS ↔ y ∈ R.map spS) ↔ SameF L R := by
  have one : ∀ {A B : List Fm}, Gd A → Gd B → (∀ y, y ∈ A.map spS ↔ y ∈ B.map spS) → ∀ f, f ∈ A → f ∈ B := fun {A B} ga gb h f hf => by
    obtain ⟨g, hg, e⟩ := List.mem_map.mp ((h (spS f)).1 (List.mem_map_of_mem hf))
    rw [← spS_inj (gb g hg).1 (ga f hf).1 e]
    exact hg
  constructor
  · exact fun h f => ⟨one gl gr h f, one gr gl (fun y => (h y).symm) f⟩
  · intro h y
    constructor
    · intro hy
      obtain ⟨f, hf, e⟩ := List.mem_map.mp hy
      exact List.mem_map.mpr ⟨f, (h f).1 hf, e⟩
    · intro hy
      obtain ⟨f, hf, e⟩ := List.mem_map.mp hy
      exact List.mem_map.mpr ⟨f, (h f).2 hf, e⟩
def spAlike (K : PySem.W.Frag) (C0 : Addr) : Sp := fun vs H Q E => ∃ (v u : V) (d e : PyData), vs = [v, u] ∧ Dp K H v d ∧ Dp K H u e ∧ short d ∧ short e ∧
  (isC d = true → isC e = true → ∀ L R L' R' : List Fm, d = cD L R → e = cD L' R' → Gd L → Gd R → Gd L' → Gd R' → ∀ (c : Bool) (H' : Hp), (c = true ↔ SameF L L' ∧ SameF R R') → Same H H' → Q (.bl c) H') ∧ ((isC d && isC e) = false → ∀ H', Same H H' → E (.ref C0) none H')
def spHolds (K : PySem.W.Frag) (C0 : Addr) : Sp := fun vs H Q E => ∃ (v : V) (d : PyData) (a : Addr) (ns : List Int), vs = [v, .ref a] ∧ Dp K H v d ∧ short d ∧ SqL K H a (ns.map V.int) ∧ ns.length ≤ 1000 ∧
  (isC d = true → ∀ L R : List Fm, d = cD L R → Gd L → Gd R → ∀ H', Same H H' → Q (.bl (!(L.all fun f => f.tr fun i => decide (i ∈ ns)) || R.any fun f => f.tr fun i => decide (i ∈ ns))) H') ∧ (isC d = false → ∀ H', Same H H' → E (.ref C0) none H')
theorem dp_claim {K : PySem.W.Frag} {H : Hp} {v : V} {L R : List Fm} (h : Dp K H v (cD L R)) : ∃ (a b c : Addr) (xs zs : List V), v = .ref a ∧ SqT K H a [.ref b, .ref c] ∧ SqL K H b xs ∧ SqL K H c zs ∧ DpAll K H xs (L.map Fm.toD) ∧ DpAll K H zs (R.map Fm.toD) := by
  have h : Dp K H v (.tuple [.list (L.map Fm.toD), .list (R.map Fm.toD)]) := h
  cases h with
  | tup hs ha =>
    cases ha with
    | cons hx ha =>
      cases ha with
      | cons hy ha =>
        cases ha
        cases hx with
        | lst h1 a1 =>
          cases hy with
          | lst h2 a2 => exact ⟨_, _, _, _, _, rfl, hs, h1, h2, a1, a2⟩
section
variable {P : Program} {w : World} {K : PySem.W.Frag} {mg : Str → Option Value} {base : Heap} {f : Addr} {fd : FuncData}
theorem scNoClaim : FnScope ["thing"] ["thing"] (defScope sNoClaim) := ⟨rfl, rfl, rfl, by decide +kernel, rfl, by decide +kernel, by decide +kernel⟩
theorem ok_noClaim {C0 : Addr} (D : Df K mg "refuse_no_claim" sNoClaim ["thing"] f fd) (G : Has P w K mg base 17 "is_claim" ["thing"] (spIsClaim K)) (B : ErrK K C0) (mB : mg "BadClaim" = some (.ref C0)) : FnOk P w K mg base (L2N.CX P w) 18 f fd ["thing"] (spNoClaim K C0) := by
  refine fun_okN D.fn scNoClaim (fun vs H Q E h => ?_) (fun cv A outer s H vs Q E hr h => ?_)
  · obtain ⟨v, d, rfl, _⟩ := h
    rfl
  obtain ⟨v, d, rfl, hd, hsh, q1, q2⟩ := h
  refine ⟨_, pss_one (ps_if (pt_not (pt_val (pe_callH G hr (by rfl) (pa_cons (pv 0) pa_nil)))) (pss_one (L2N.ps_raise rfl (L2N.takes_of rfl rfl rfl rfl) (L2N.pmk_own PySem.F.excBase_ValueError B.new mB B.kp (raises_own B.ex.hs B.ty) (by rfl)))) pss_nil), ?_⟩
  refine ⟨v, rfl, v, d, rfl, hd, hsh, fun H' e => ⟨isC d, rfl, ?_⟩⟩
  cases c : isC d with
  | true => exact iteF (q1 c H' e)
  | false => exact iteT (q2 c H' e)
theorem scHolds : FnScope ["claim", "world", "left", "right", "f"] ["claim", "world"] (defScope sHolds) := ⟨rfl, rfl, rfl, by decide +kernel, rfl, by decide +kernel, by decide +kernel⟩
theorem all_map (L : List Fm) (t : Fm → Bool) : (L.map t).all id = L.all t := by
  induction L with
  | nil => rfl
  | cons f L ih => rw [List.map_cons, List.all_cons, List.all_cons, ih]; rfl
theorem any_map (L : List Fm) (t : Fm → Bool) : (L.map t).any id = L.any t := by
  induction L with
  | nil => rfl
  | cons f L ih => rw [List.map_cons, List.any_cons, List.any_cons, ih]; rfl
theorem ok_holds {C0 : Addr} (D : Df K mg "holds" sHolds ["claim", "world"] f fd) (B : Blt mg) (ma : mg "any" = none) (R : HasN P w K mg base 18 "refuse_no_claim" ["thing"] (spNoClaim K C0)) (T : Has P w K mg base 18 "truth" ["f", "world"] (spTruth K)) : FnOk P w K mg base (L2N.CX P w) 19 f fd ["claim", "world"] (spHolds K C0) := by
  refine fun_okN D.fn scHolds (fun vs H Q E h => ?_) (fun cv A outer s H vs Q E hr h => ?_)
  · obtain ⟨v, d, a, ns, rfl, _⟩ := h
    rfl
  obtain ⟨v, d, aw, ns, rfl, hd, hsh, hw, hl, q1, q2⟩ := h
  refine ⟨_, pss_cons (ps_expr (pe_callN (E := E) R (L2N.takes_of rfl rfl rfl rfl) (fun _ _ _ _ h => h) hr (by rfl) (pa_cons (pv 0) pa_nil)))
    (pss_cons (ps_asg (pv 0) (pg_tup rfl (pgs_cons (pg_name (i := 2) scHolds.nd rfl (.inl rfl)) (pgs_cons (pg_name (i := 3) scHolds.nd rfl (.inl rfl)) pgs_nil))))
    (pss_one (ps_ret (pe_or (pe_not (pe_callB (cr_all rfl) (by rfl) B.all bt_all (pa_cons (pe_lc (own := [("f", 4)]) (g := gName 4) (tt := tYes) rfl scHolds.nd (pi_list (pv 2))
        (blkOk_by (N := ["claim", "world", "left", "right", "f"]) (sc := defScope sHolds) (by decide +kernel)) (fun _ _ _ _ _ => pg_name (i := 4) scHolds.nd rfl (Or.inl rfl)) (fun _ _ _ _ _ => pts_nil) (fun _ _ _ _ _ => pe_callH T hr (by rfl) (pa_cons (pv 4) (pa_cons (pv 1) pa_nil)))) pa_nil)))
      (pe_one (pe_callB (cr_any rfl) (by rfl) ma bt_any (pa_cons (pe_lc (own := [("f", 4)]) (g := gName 4) (tt := tYes) rfl scHolds.nd (pi_list (pv 3))
        (blkOk_by (N := ["claim", "world", "left", "right", "f"]) (sc := defScope sHolds) (by decide +kernel)) (fun _ _ _ _ _ => pg_name (i := 4) scHolds.nd rfl (Or.inl rfl)) (fun _ _ _ _ _ => pts_nil) (fun _ _ _ _ _ => pe_callH T hr (by rfl) (pa_cons (pv 4) (pa_cons (pv 1) pa_nil)))) pa_nil))))))), ?_⟩
  refine ⟨v, rfl, v, d, rfl, hd, hsh, fun c1 H1 e1 => ?_, q2⟩
  obtain ⟨L, R, rfl, gL, gR, w1⟩ := isC_back c1
  obtain ⟨a, b, c, xs, zs, rfl, ht, hb, hc, db, dc⟩ := dp_claim (dp_same e1 _ _ hd)
  have n1 := words_len L
  have n2 := words_len R
  have l1 := dpAll_len db
  have l2 := dpAll_len dc
  rw [List.length_map] at l1 l2
  have hw1 := e1.seq hw
  refine ⟨.ref a, rfl, a, _, rfl, ht, rfl, .ref b, _, rfl, .ref c, _, rfl, rfl, ?_⟩
  have fin := fun H' e => q1 c1 L R rfl gL gR H' e
  generalize htr : (fun f : Fm => f.tr fun i => decide (i ∈ ns)) = tr at fin
  refine ⟨.ref b, rfl, b, rfl, ⟨_, hb⟩, fun D1 nD1 => ?_⟩
  refine lc_map_list (K := K) (a := b) (xs := xs) (ys := (L.map tr).map V.bl) (j := 4) hb nD1 (by rw [List.length_map, List.length_map, l1]) (by rw [List.length_map, List.length_map]; exact sl1000 (by omega)) (fun i x y H' hi hy e Q' q' => ?_) (fun H2 e2 hL => ?_)
  · obtain ⟨g, hg, hx⟩ := kid_get db hi
    have m := List.mem_of_getElem? hg
    have ey : y = .bl (tr g) := by
      rw [List.getElem?_map, List.getElem?_map, hg] at hy
      exact (Option.some.inj hy).symm
    rw [ey, ← htr] at q'
    exact ⟨x, rfl, .ref aw, rfl, x, g, aw, ns, rfl, dp_same e _ _ hx, (gL g m).1, (gL g m).2, e.seq hw1, hl, q'⟩
  refine ⟨D1, _, rfl, SqL.of hL, _, rfl, _, rfl, ?_⟩
  rw [all_map]
  refine ite2 (fun z => ?_) (fun z => ?_)
  · have f2 := fin H2 (e1.trans e2)
    rw [z, Bool.true_or] at f2
    exact f2
  · have z : (!L.all tr) = false := Bool.eq_false_iff.mpr z
    refine ⟨.ref c, rfl, c, rfl, ⟨_, e2.seq hc⟩, fun D2 nD2 => ?_⟩
    refine lc_map_list (K := K) (a := c) (xs := zs) (ys := (R.map tr).map V.bl) (j := 4) (e2.seq hc) nD2 (by rw [List.length_map, List.length_map, l2]) (by rw [List.length_map, List.length_map]; exact sl1000 (by omega)) (fun i x y H' hi hy e Q' q' => ?_) (fun H3 e3 hR => ?_)
    · obtain ⟨g, hg, hx⟩ := kid_get dc hi
      have m := List.mem_of_getElem? hg
      have ey : y = .bl (tr g) := by
        rw [List.getElem?_map, List.getElem?_map, hg] at hy
        exact (Option.some.inj hy).symm
      rw [ey, ← htr] at q'
      exact ⟨x, rfl, .ref aw, rfl, x, g, aw, ns, rfl, dp_same (e2.trans e) _ _ hx, (gR g m).1, (gR g m).2, (e2.trans e).seq hw1, hl, q'⟩
    refine ⟨D2, _, rfl, SqL.of hR, ?_⟩
    rw [any_map]
    have f3 := fin H3 (e1.trans (e2.trans e3))
    rw [z, Bool.false_or] at f3
    exact f3
end
end Lm
set_option Elab.async false
set_option linter.all false
set_option maxRecDepth 100000
set_option maxHeartbeats 400000
/-! sets of keys: compared, made by a comprehension -/
namespace Lm
open PySem PySem.Spec PyProof.Rows L2
theorem entry_seteq : entryFor table "set.__eq__" = some Builtin.«frozenset.__eq__» :=
  entryFor_alias (id' := "frozenset.__eq__") (by kernel_rfl) rfl (by decide +kernel) (by kernel_rfl)
section
variable {prog : Program} {w : World} {A : Around} {E : Value → Shared → Prop} {s : Shared}
theorem quiet_scan {x : Value} (h : x.scannable = true) : Builtin.Frozenset.quietEq x = pure true := by
  cases x <;> first | rfl | exact absurd h Bool.false_ne_true
theorem sizeOf_set {a : Addr} {o : Obj} {es : Array (Int × Value)} {ep : Nat} {t : SetTable} {Q : Nat → Shared → Prop} (ho : s.heap.get? a = some o) (hd : o.data = .set es ep t) (hf : t.fits es.size = true) (q : Q es.size s) : wpAny (model prog w) A (Builtin.Frozenset.sizeOf a) Q E s := by
  unfold Builtin.Frozenset.sizeOf
  exact wpAny_bind (wpAny_setEntries_of ho hd hf (wpAny_pure q))
theorem anySet_set {a : Addr} {Q : Bool → Shared → Prop} (h : s.TypeIs (.ref a) "set") (q : Q true s) : wpAny (model prog w) A (Builtin.Frozenset.isAnySet (.ref a)) Q E s := by
  unfold Builtin.Frozenset.isAnySet
  refine wpAny_bind (wpAny_isInstance (T := "set") (b := true) h (by rw [isSubtype_type]; kernel_rfl) ?_)
  exact wpAny_pure q
/-- all that stands in a stands in b: one after the other, in the order in which they lie -/
theorem unseen_quiet {a b : Addr} {oa ob : Obj} {ea eb : Array (Int × Value)} {pa pb : Nat} {ta tb : SetTable} {Q : List (Int × Value) → Shared → Prop} (ha : s.heap.get? a = some oa) (da : oa.data = .set ea pa ta) (fa : ta.fits ea.size = true) (hb : s.heap.get? b = some ob) (db : ob.data = .set eb pb tb) (fb : tb.fits eb.size = true)
    (sa : ∀ e ∈ ea.toList, e.2.scannable = true) (sb : ∀ e ∈ eb.toList, e.2.scannable = true) (q : Q ea.toList s) : wpAny (model prog w) A (Builtin.Frozenset.walkUnseen a b) Q E s := by
  unfold Builtin.Frozenset.walkUnseen
  refine wpAny_bind (wpAny_setEntries_of ha da fa ?_)
  refine wpAny_bind (wpAny_setEntries_of hb db fb ?_)
  refine wpAny_bind (wpAny_forIn_list _ (fun rest r s' => s' = s ∧ r = (none, ()) ∧ ∀ e ∈ rest, e.2.scannable = true) _ ?_ ?_ _ _ ⟨rfl, rfl, fun e he => (List.mem_append.mp he).elim (sa e) (sb e)⟩)
  · rintro ⟨i, y⟩ rest r s' ⟨rfl, rfl, hs⟩
    have e := quiet_scan (hs (i, y) List.mem_cons_self)
    show wpAny _ _ (Builtin.Frozenset.quietEq y >>= _) _ _ _
    rw [e]
    refine wpAny_bind (wpAny_pure ?_)
    simp only [Bool.not_true, Bool.false_eq_true, if_false]
    exact wpAny_pure ⟨rfl, rfl, fun e he => hs e (List.mem_cons_of_mem _ he)⟩
  · rintro r s' ⟨rfl, rfl, _⟩
    exact wpAny_pure q
variable {K : Type} [DecidableEq K] {knd : KeyKind prog w K}
theorem subset_of {a b : Addr} {S T : K → Bool} {n m : Nat} {Q : Bool → Shared → Prop} {id : String} (RA : s.heap.SetOf knd a S n) (RB : s.heap.SetOf knd b T m) (e : n = m) (q : ∀ c : Bool, (c = true ↔ ∀ k, S k = true → T k = true) → Q c s) : wpAny (model prog w) A (Builtin.Frozenset.subsetOf id a b) Q E s := by
  have RB' := RB
  obtain ⟨oa, ea, pa, ta, ha, xa, da, la, ma, ba, fa, na⟩ := RA
  obtain ⟨ob, eb, pb, tb, hb, xb, db, lb, mb, bb, fb, nb⟩ := RB
  unfold Builtin.Frozenset.subsetOf
  refine wpAny_bind (sizeOf_set ha da fa ?_)
  refine wpAny_bind (sizeOf_set hb db fb ?_)
  rw [if_neg (by omega)]
  refine wpAny_bind (wpAny_setEpoch_of ha da fa ?_)
  refine wpAny_bind (unseen_quiet ha da fa hb db fb (fun e he => (la e he).2) (fun e he => (lb e he).2) ?_)
  have sub : ∀ k, S k = true ↔ ∃ e ∈ ea.toList, knd.is k e.2 = true := ma
  refine wpAny_bind (wpAny_forIn_list _ (fun rest r s' => s' = s ∧ r = (none, ()) ∧ (∀ e ∈ rest, e ∈ ea.toList) ∧ (∀ e ∈ ea.toList, e ∈ rest ∨ ∃ k, knd.is k e.2 = true ∧ T k = true)) _ ?_ ?_ _ _ ⟨rfl, rfl, fun e he => he, fun e he => .inl he⟩)
  · rintro ⟨i, y⟩ rest r s' ⟨rfl, rfl, hin, hh⟩
    have hy := hin (i, y) List.mem_cons_self
    obtain ⟨⟨k, hk, hi⟩, hsc⟩ := la _ hy
    have hi : i = knd.hash k := hi
    subst hi
    show wpAny _ _ (holding [y] (setFind b y (knd.hash k)) >>= _) _ _ _
    refine wpAny_bind (wpAny_holding (wpAny_setFind_of hk hsc RB' fun r hr => ?_))
    cases hT : T k with
    | false =>
      rw [hT] at hr
      cases r with
      | some z => cases hr
      | none =>
        simp only [Option.isNone_none, if_true]
        refine wpAny_pure ?_
        dsimp only
        refine wpAny_pure (q false ⟨fun z => (nomatch z), fun z => ?_⟩)
        have z2 := z k ((ma k).2 ⟨_, hy, hk⟩)
        rw [hT] at z2
        exact z2
    | true =>
      rw [hT] at hr
      cases r with
      | none => cases hr
      | some z =>
        simp only [Option.isNone_some, Bool.false_eq_true, if_false]
        unfold Builtin.Frozenset.unchanged
        refine wpAny_bind (wpAny_bind (wpAny_setEpoch_of ha da fa ?_))
        rw [if_neg (by simp)]
        refine wpAny_pure (wpAny_pure ⟨rfl, rfl, fun e he => hin e (List.mem_cons_of_mem _ he), fun e he => ?_⟩)
        rcases hh e he with h | h
        · rcases List.mem_cons.mp h with h | h
          · exact .inr ⟨k, by rw [h]; exact hk, hT⟩
          · exact .inl h
        · exact .inr h
  · rintro r s' ⟨rfl, rfl, _, hh⟩
    refine wpAny_pure (q true ⟨fun _ k hk => ?_, fun _ => rfl⟩)
    obtain ⟨e, he, h⟩ := (ma k).1 hk
    rcases hh e he with z | ⟨k', h1, h2⟩
    · cases z
    · rw [knd.inj _ _ _ h h1]
      exact h2
theorem sets_eq {a b : Addr} {S T : K → Bool} {n m : Nat} {Q : Value → Shared → Prop} (RA : s.heap.SetOf knd a S n) (RB : s.heap.SetOf knd b T m) (hu : A.units < cLine) (q : ∀ c : Bool, (c = true ↔ n = m ∧ ∀ k, S k = true → T k = true) → Q (.bool c) s) : wpAny (model prog w) A (richCompare .Eq (.ref a) (.ref b)) Q E s := by
  refine wpAny_richCompare_same_room (op := .Eq) RA.typeIs RB.typeIs PySem.F.slot_set_eq (wpAny_call_entry PySem.F.slot_set_eq RA.typeIs entry_seteq ?_ (PySem.F.args_set_eq_2 _ _)) hu
  show wpAny _ _ (Builtin.Frozenset.slot1 "__eq__" ⟨[.ref a, .ref b], []⟩ >>= _) _ _ s
  refine wpAny_bind ?_
  unfold Builtin.Frozenset.slot1 slotArgs
  simp only [List.isEmpty_nil, Bool.not_true, Bool.false_eq_true, ↓reduceIte, List.length_cons, List.length_nil, bne_self_eq_false]
  refine wpAny_bind (wpAny_pure ?_)
  dsimp only
  refine wpAny_pure ?_
  dsimp only
  have RA' := RA
  have RB' := RB
  obtain ⟨oa, ea, pa, ta, ha, xa, da, la, ma, ba, fa, na⟩ := RA
  obtain ⟨ob, eb, pb, tb, hb, xb, db, lb, mb, bb, fb, nb⟩ := RB
  refine wpAny_bind (anySet_set ⟨ob, hb, xb.1⟩ ?_)
  simp only [Bool.not_true, Bool.false_eq_true, if_false]
  unfold Builtin.Frozenset.addrOf
  refine wpAny_bind (wpAny_pure (wpAny_bind (wpAny_pure ?_)))
  refine wpAny_bind (sizeOf_set ha da fa ?_)
  refine wpAny_bind (sizeOf_set hb db fb ?_)
  by_cases hz : n = m
  · rw [if_neg (by rw [na, nb, hz]; simp)]
    refine wpAny_bind (wpAny_bind (wpAny_bind (wpAny_isInstance (T := "set") (b := false) ⟨oa, ha, xa.1⟩ (by rw [isSubtype_type]; kernel_rfl) ?_)))
    refine wpAny_pure ?_
    simp only [Bool.false_eq_true, if_false]
    refine subset_of RA' RB' hz fun c hc => ?_
    exact wpAny_pure ⟨_, rfl, (fun z => nomatch z), q c (hc.trans ⟨fun z => ⟨hz, z⟩, fun z => z.2⟩)⟩
  · rw [if_pos (by rw [na, nb]; simpa using hz)]
    refine wpAny_bind (wpAny_pure ?_)
    exact wpAny_pure ⟨_, rfl, (fun z => nomatch z), q false ⟨fun z => (nomatch z), fun z => absurd z.1 hz⟩⟩
end
end Lm
set_option Elab.async false
set_option linter.all false
set_option maxRecDepth 100000
set_option maxHeartbeats 1000000
/-! a set of keys by a comprehension over one row -/
namespace Lm
open PySem PySem.Spec PyProof.Rows L2 PpSet
section
variable {X : Cx}
/-- sets of keys compared: c tells whether they have as many members, those of the first among those of the other -/
def rEqSets (P : Program) (w : World) : R2 := fun x y H Q => ∃ (a b : Addr) (S T : Key → Bool) (n m : Nat), x = .ref a ∧ y = .ref b ∧ H a = some (SetK P w a S n) ∧ H b = some (SetK P w b T m) ∧ ∀ c : Bool, (c = true ↔ n = m ∧ ∀ k, S k = true → T k = true) → Q (.bl c) H
theorem op_eqSets (hu : X.A.units < cLine) : OpR X (compareOp .Eq) (rEqSets X.prog X.w) := by
  intro pins s σ H x y v u Q I rx ry h
  obtain ⟨a, b, S, T, n, m, rfl, rfl, ha, hb, q⟩ := h
  obtain rfl : v = Value.ref a := rx
  obtain rfl : u = Value.ref b := ry
  exact sets_eq (setK_get I ha) (setK_get I hb) hu fun c hc => ⟨.bl c, H, I, rfl, q c hc⟩
/-- one turn is told by Nx, D the set -/
def kTurn (P : Program) (w : World) (D : Addr) (g : TG) (tt : TT) (te : TE) (vs : List Nat) (Nx : Hp → Prop) (σ : L2.St) (x : V) (Hx : Hp) : Prop :=
  g x (wipe σ vs) Hx fun σt Ht => wipe σt vs = wipe σ vs ∧ tt σt Ht fun b Hb =>
    if b = true then te σt Hb fun y He => ∃ (k : Key) (S : Key → Bool) (n : Nat), y = kV k ∧ He D = some (SetK P w D S n) ∧ n + 1 < scanBound ∧ Nx (upd He D (SetK P w D (fun j => S j || decide (j = k)) (if S k = true then n else n + 1))) else Nx Hb
/-- {elt for target in iter if ..} -/
def tScK (P : Program) (w : World) (wi : TI) (g : TG) (tt : TT) (te : TE) (vs : List Nat) : TE := fun σ H Q => wi σ H fun J H1 => ∀ D, H1 D = none →
  ∃ M : Nat → Nat → Hp → Prop, (∃ m, M 0 m (upd H1 D (SetK P w D (fun _ => false) 0))) ∧ ∀ i m Hi, M i m Hi → (J.stop i Hi ∧ Q (.ref D) Hi) ∨
    (J.go i Hi ∧ ∃ Nx : Hp → Prop, (∀ Hn, Nx Hn → ∃ m', m' < m ∧ M (i + 1) m' Hn) ∧ ∀ x Hx, J.yld i Hi x Hx → kTurn P w D g tt te vs Nx σ x Hx)
theorem newK {h : Heap} (P : Program) (w : World) : (h.push { cls := .type "set", dict := none, data := .set #[] 0 (.fresh 0 0 (!w.params.followText "set-order")) }).SetOf (mixKind P w) h.objs.size (fun _ => false) 0 := by
  refine ⟨_, #[], 0, _, Heap.get?_push_size _ rfl, ⟨rfl, rfl, rfl⟩, rfl, ?_, ?_, by decide, by rfl, rfl⟩
  · intro e he
    simp at he
  · intro k
    simp
/-- from the set's making on, in the state S -/
theorem scK_run {pins : List (Addr × Obj)} {σ : L2.St} {Hc : Hp} {S : Shared} {Q : VK} {it D : Addr} {fp : List Addr} {tn : Nat → Heap → Prop} {J : It} {elt tg iter : Expr} {ifs : List Expr} {sc : Scope} {own : List (PySem.Str × Nat)} {pos : Pos} {g : TG} {tt : TT} {te : TE} {M : Nat → Nat → Hp → Prop} {m0 : Nat}
    (calm : X.calm = true) (nd : X.N.Nodup) (bo : BlkOk X.N X.env.scope sc own) (I : Inv X pins σ Hc S) (T : Turn X.prog X.w X.K tg J fp it tn) (st : tn 0 S.heap) (fc : ∀ b ∈ fp, FpOk X pins Hc b ∧ b < S.heap.objs.size) (w0 : M 0 m0 Hc)
    (turn : ∀ i m Hi, M i m Hi → (J.stop i Hi ∧ Q (.ref D) Hi) ∨ (J.go i Hi ∧ ∃ Nx : Hp → Prop, (∀ Hn, Nx Hn → ∃ m', m' < m ∧ M (i + 1) m' Hn) ∧ ∀ x Hx, J.yld i Hi x Hx → kTurn X.prog X.w D g tt te (own.map (·.2)) Nx σ x Hx))
    (hg : ∀ (s : Shared) (H : Hp) (C : Addr) (cl : List (PySem.Str × Addr)) (fp : List Addr), PG (X.blk s H sc (compEnvC sc cl C X.env) fp) tg g)
    (ht : ∀ (s : Shared) (H : Hp) (C : Addr) (cl : List (PySem.Str × Addr)) (fp : List Addr), PTs (X.blk s H sc (compEnvC sc cl C X.env) fp) ifs tt)
    (he : ∀ (s : Shared) (H : Hp) (C : Addr) (cl : List (PySem.Str × Addr)) (fp : List Addr), PE (X.blk s H sc (compEnvC sc cl C X.env) fp) elt te) :
    codeAny (model X.prog X.w) X.A (.compStart (.SetComp elt [⟨tg, iter, ifs, 0⟩] sc pos) 0 (.ref it) (.ref D) (compEnvC sc (cellsFrom (S.heap.objs.size + 1) sc.names (cloFrom X.env.cells sc.names [])) S.heap.objs.size X.env)) (compPost (model X.prog X.w) X.A X.xe none (EP X pins σ Q) (.ref D) S.heap.objs.size)
      { S with heap := pushCells (S.heap.push { cls := .type "dict", data := .dict #[] }) sc.names } := by
  have K0 := block_start I bo nd fc
  have pg := hg S Hc S.heap.objs.size (cellsFrom (S.heap.objs.size + 1) sc.names (cloFrom X.env.cells sc.names [])) fp
  have pt := ht S Hc S.heap.objs.size (cellsFrom (S.heap.objs.size + 1) sc.names (cloFrom X.env.cells sc.names [])) fp
  have pe := he S Hc S.heap.objs.size (cellsFrom (S.heap.objs.size + 1) sc.names (cloFrom X.env.cells sc.names [])) fp
  have place : (compEnvC sc (cellsFrom (S.heap.objs.size + 1) sc.names (cloFrom X.env.cells sc.names [])) S.heap.objs.size X.env).locals = S.heap.objs.size := rfl
  have st0 : tn 0 (pushCells (S.heap.push { cls := .type "dict", data := .dict #[] }) sc.names) := T.keep _ _ _ st fun b _ o e => pushCells_keeps _ _ _ _ (Heap.get?_push_of_some _ e)
  generalize compEnvC sc (cellsFrom (S.heap.objs.size + 1) sc.names (cloFrom X.env.cells sc.names [])) S.heap.objs.size X.env = ce at K0 pg pt pe place ⊢
  have free0 : ∀ b ∈ fp, Hc b = none := fun b hb => (fc b hb).1.1
  have kept : ∀ {σ' : L2.St} {H' : Hp} {z : Shared}, Inv (X.blk S Hc sc ce fp) [] σ' H' z → (∀ b ∈ fp, H' b = none) → ∀ b ∈ fp, FpOk (X.blk S Hc sc ce fp) [] H' b := fun {σ' H' z} L n b hb => by
    have e1 := L.ok.exf b hb
    exact ⟨n b hb, e1.1, L.ok.exfs b hb, .inl hb, fun x c e => e1.2 x c e, fun y hy => absurd (show y ∈ ([] : List (Addr × Obj)) ++ [] from hy) (by simp)⟩
  have loop : codeAny (model X.prog X.w) X.A (.compLoop (.SetComp elt [⟨tg, iter, ifs, 0⟩] sc pos) 0 (.ref it) (.ref D) ce) (compPost (model X.prog X.w) X.A X.xe none (EP X pins σ Q) (.ref D) S.heap.objs.size)
      { S with heap := pushCells (S.heap.push { cls := .type "dict", data := .dict #[] }) sc.names } := by
    refine compLoopS_any (fun n z => ∃ i Hi, Inv (X.blk S Hc sc ce fp) [] (wipe σ (own.map (·.2))) Hi z ∧ tn i z.heap ∧ (∀ b ∈ fp, Hi b = none) ∧ M i n Hi) ?_ m0 ⟨0, Hc, K0, st0, free0, w0⟩
    rintro n z ⟨i, Hi, Iz, sz, nz, wz⟩
    rcases turn i n Hi wz with ⟨stop, last⟩ | ⟨go, Nx, less, step⟩
    · refine thnF (T.done (X.blk S Hc sc ce fp) rfl rfl rfl calm i [] z _ Hi (fun _ _ => False) Iz (kept Iz nz) sz stop) fun r y ⟨rn, Iy⟩ => ?_
      subst rn
      have out : Inv X pins σ Hi y := I.call' (ch := fp) Iy.os Iy.base Iy.hok Iy.bare fun b hb => ⟨(fc b hb).1.2.2.2.1, (fc b hb).1.2.1, (fc b hb).1.2.2.2.2.1, (fc b hb).1.2.2.2.2.2⟩
      have nc : Hi ce.locals = none := Iy.free
      obtain ⟨m, hn, _⟩ := Iy.loc
      have hn : y.heap.Ns ce.locals m := hn
      rw [place] at nc hn
      obtain ⟨f0, f1, _, f3, f4, f5⟩ := I.fpOk (H' := Hi) (Nat.le_refl _) nc
      exact ⟨m, hn, fun h' sb => ⟨.ref D, Hi, out.turned (t' := y.toks) (fun b o hb e => (sb.2 b hb).trans e) f0 f1 f3 f4 f5, rfl, last⟩⟩
    · refine thnF (T.item (X.blk S Hc sc ce fp) rfl rfl rfl calm i [] z _ Hi (fun _ _ => False) Iz (kept Iz nz) sz go) fun r y ⟨u, ru, hy⟩ => ?_
      subst ru
      refine thnF hy fun _ y1 ⟨x, Hx, I1, rx, yx, s1, n1⟩ => ?_
      have I1p := I1.pinned (kept I1 n1) (T.obj _ _ s1)
      refine thnF (pg.run _ y1 _ Hx x u _ I1p rx (step x Hx yx)) fun _ y2 ⟨σ2, H2, I2, e2, q2⟩ => ?_
      refine thnF (pt.run _ y2 σ2 H2 _ I2 q2) fun b y3 ⟨H3, I3, q3⟩ => ?_
      have again : ∀ {y4 : Shared} {H4 : Hp}, Inv (X.blk S Hc sc ce fp) ([] ++ pinsAt fp y1.heap) σ2 H4 y4 → Nx H4 → ∃ m, m < n ∧ ∃ i Hi, Inv (X.blk S Hc sc ce fp) [] (wipe σ (own.map (·.2))) Hi y4 ∧ tn i y4.heap ∧ (∀ b ∈ fp, Hi b = none) ∧ M i m Hi := fun {y4 H4} I4 nx => by
        obtain ⟨m', lt, w'⟩ := less H4 nx
        have stay : ∀ b ∈ fp, ∀ o, y1.heap.get? b = some o → y4.heap.get? b = some o ∧ H4 b = none := fun b hb o e => by
          have p := I4.pin (b, o) (List.mem_append_right _ (List.mem_append_right _ (mem_pinsAt hb e)))
          exact ⟨p.1, p.2.1⟩
        refine ⟨m', lt, i + 1, H4, (I4.unpinned (pins := [])).weak (by rw [← e2, wipe_length]) (fun j v e => ?_), T.keep _ _ _ s1 fun b hb o e => (stay b hb o e).1, fun b hb => ?_, w'⟩
        · rw [← e2] at e
          exact (wipe_some e).1
        · obtain ⟨o, e, _⟩ := T.obj _ _ s1 b hb
          exact (stay b hb o e).2
      cases b with
      | false =>
        simp only [Bool.false_eq_true, if_false] at q3 ⊢
        exact again I3 q3
      | true =>
        simp only [if_true] at q3 ⊢
        refine thnF (pe.run _ y3 σ2 H3 _ I3 q3) fun v y4 ⟨yv, H4, I4, r4, k, S0, n0, ey, hD, room, nx⟩ => ?_
        subst ey
        refine wpAny_mono (mt_saddK (X := X.blk S Hc sc ce fp) _ y4 σ2 H4 (.ref D) [kV k] (.ref D) [v] (fun _ H5 => Nx H5) I4 rfl (.cons r4 .nil) ⟨D, k, S0, n0, rfl, rfl, hD, room, nx⟩) (fun _ y5 ⟨_, H5, I5, _, nx5⟩ => again I5 nx5) fun _ _ z => False.elim z
  exact codeAny_compStart_set loop (T.self X.A 0 _ _ _ st0 loop)
/-- the comprehension, as a value -/
theorem pe_scK {elt tg iter : Expr} {ifs : List Expr} {sc : Scope} {own : List (PySem.Str × Nat)} {pos : Pos} {wi : TI} {g : TG} {tt : TT} {te : TE} (calm : X.calm = true) (nd : X.N.Nodup) (hi : PI X tg iter wi) (bo : BlkOk X.N X.env.scope sc own)
    (hg : ∀ (s : Shared) (H : Hp) (C : Addr) (cl : List (PySem.Str × Addr)) (fp : List Addr), PG (X.blk s H sc (compEnvC sc cl C X.env) fp) tg g)
    (ht : ∀ (s : Shared) (H : Hp) (C : Addr) (cl : List (PySem.Str × Addr)) (fp : List Addr), PTs (X.blk s H sc (compEnvC sc cl C X.env) fp) ifs tt)
    (he : ∀ (s : Shared) (H : Hp) (C : Addr) (cl : List (PySem.Str × Addr)) (fp : List Addr), PE (X.blk s H sc (compEnvC sc cl C X.env) fp) elt te)
    (fold : ∀ x, foldedSetIterable iter X.env x = pure x := by intro _; rfl) :
    PE X (.SetComp elt [⟨tg, iter, ifs, 0⟩] sc pos) (tScK X.prog X.w wi g tt te (own.map (·.2))) := by
  refine ⟨fun pins s σ H Q I h => ?_⟩
  rw [eval_SetComp]
  have caught : ∀ y ∈ sc.names, y.2 = .free → ∃ c, X.env.cells.lookup y.1 = some c := fun y hy e => (bo.free y hy e).elim (fun z => I.ok.has _ (.inl z)) fun z => I.ok.has _ (.inr z)
  refine wpAny_comprehension_free rfl fold (closure_ok caught) bo.kind (fun y hy e => by rw [bo.uniq y hy, e]) (thn (hi.run pins s σ H _ I h) fun _ sa hx => thn hx fun _ sb h2 => ?_)
  obtain ⟨it, fp, tn, J, Hb, rfl, Ib, T, stb, fb, q⟩ := h2
  refine newSet_ok (newEnv_comp ?_)
  -- the set's place D, the state sc with the set
  have nD : Hb sb.heap.objs.size = none := Ib.hok.fresh (Nat.le_refl _)
  obtain ⟨M, ⟨m0, w0⟩, turn⟩ := q sb.heap.objs.size nD
  have setAt := newK (h := sb.heap) X.prog X.w
  have grown : ∀ b o, sb.heap.get? b = some o → (sb.heap.push { cls := .type "set", dict := none, data := .set #[] 0 (.fresh 0 0 (!X.w.params.followText "set-order")) }).get? b = some o := fun b o e => Heap.get?_push_of_some _ e
  have Ic := Ib.laid (t' := sb.toks) grown (Nat.le_refl _) (setK_new setAt)
  have low : ∀ b ∈ fp, b < sb.heap.objs.size := fun b hb => (T.obj _ _ stb b hb).elim fun o e => Heap.lt_size e.1
  have fc : ∀ b ∈ fp, FpOk X pins (upd Hb sb.heap.objs.size (SetK X.prog X.w sb.heap.objs.size (fun _ => false) 0)) b ∧ b < (sb.heap.push { cls := .type "set", dict := none, data := .set #[] 0 (.fresh 0 0 (!X.w.params.followText "set-order")) }).objs.size := fun b hb =>
    ⟨⟨by rw [upd_ne (Nat.ne_of_lt (low b hb))]; exact (fb b hb).1, (fb b hb).2⟩, by rw [Heap.size_push]; exact Nat.lt_succ_of_lt (low b hb)⟩
  have stc := T.keep _ _ _ stb fun b _ o e => grown b o e
  generalize sb.heap.objs.size = D at nD w0 turn setAt Ic fc ⊢
  generalize upd Hb D (SetK X.prog X.w D (fun _ => false) 0) = Hc at w0 Ic fc ⊢
  generalize (sb.heap.push { cls := .type "set", dict := none, data := .set #[] 0 (.fresh 0 0 (!X.w.params.followText "set-order")) }) = hc at setAt Ic fc stc grown ⊢
  exact scK_run calm nd bo Ic T stc fc w0 turn hg ht he
end
theorem nodup_le : ∀ {ks ls : List Str}, ks.Nodup → (∀ y ∈ ks, y ∈ ls) → ks.length ≤ ls.length
  | [], ls, _, _ => Nat.zero_le _
  | k :: ks, ls, nd, sub => by
    have hk := sub k List.mem_cons_self
    have nd' := List.nodup_cons.mp nd
    have l := nodup_le (ks := ks) (ls := ls.erase k) nd'.2 fun x hx => (List.mem_erase_of_ne (fun (q : x = k) => nd'.1 (q ▸ hx))).mpr (sub x (List.mem_cons_of_mem _ hx))
    rw [List.length_erase_of_mem hk] at l
    have := List.length_pos_of_mem hk
    rw [List.length_cons]
    omega
theorem pigeon : ∀ {ks ls : List Str}, ks.Nodup → (∀ y ∈ ks, y ∈ ls) → ks.length = ls.length → ∀ y ∈ ls, y ∈ ks
  | [], ls, _, _, e, y, h => by rw [List.eq_nil_of_length_eq_zero e.symm] at h; exact h
  | k :: ks, ls, nd, sub, e, y, h => by
    have hk := sub k List.mem_cons_self
    have nd' := List.nodup_cons.mp nd
    by_cases z : y = k
    · rw [z]
      exact List.mem_cons_self
    · refine List.mem_cons_of_mem _ (pigeon (ks := ks) (ls := ls.erase k) nd'.2 (fun x hx => ?_) ?_ y ?_)
      · exact (List.mem_erase_of_ne (fun (q : x = k) => nd'.1 (q ▸ hx))).mpr (sub x (List.mem_cons_of_mem _ hx))
      · rw [List.length_erase_of_mem hk, ← e, List.length_cons, Nat.add_sub_cancel]
      · exact (List.mem_erase_of_ne z).mpr h
/-- at D lies the set of the texts ys -/
def TxtSet (P : Program) (w : World) (H : Hp) (D : Addr) (ys : List Str) : Prop := ∃ (S : Key → Bool) (n : Nat) (ks : List Str), H D = some (SetK P w D S n) ∧ (∀ k : Key, S k = true ↔ ∃ y ∈ ks, k = Sum.inr y) ∧ ks.Nodup ∧ ks.length = n ∧ ∀ y, y ∈ ks ↔ y ∈ ys
theorem txtSet_same {P : Program} {w : World} {H H' : Hp} {D : Addr} {ys : List Str} (e : Same H H') (h : TxtSet P w H D ys) : TxtSet P w H' D ys := by
  obtain ⟨S, n, ks, h1, h2⟩ := h
  exact ⟨S, n, ks, e _ _ h1, h2⟩
/-- as many, and those of the one among those of the other: the same -/
theorem txtSet_eq {P : Program} {w : World} {H : Hp} {a b : Addr} {ys zs : List Str} {Q : VK} (ha : TxtSet P w H a ys) (hb : TxtSet P w H b zs) (q : ∀ c : Bool, (c = true ↔ ∀ y, y ∈ ys ↔ y ∈ zs) → Q (.bl c) H) : rEqSets P w (.ref a) (.ref b) H Q := by
  obtain ⟨S, n, ks, h1, h2, h3, h4, h5⟩ := ha
  obtain ⟨T, m, ls, k1, k2, k3, k4, k5⟩ := hb
  refine ⟨a, b, S, T, n, m, rfl, rfl, h1, k1, fun c hc => q c (hc.trans ⟨fun ⟨e, sub⟩ => ?_, fun same => ?_⟩)⟩
  · have sub' : ∀ y ∈ ks, y ∈ ls := fun y hy => by
      obtain ⟨y', hy', e'⟩ := (k2 _).1 (sub (Sum.inr y) ((h2 _).2 ⟨y, hy, rfl⟩))
      cases e'
      exact hy'
    have back := pigeon h3 sub' (h4.trans (e.trans k4.symm))
    exact fun y => (h5 y).symm.trans ((⟨sub' y, back y⟩ : y ∈ ks ↔ y ∈ ls).trans (k5 y))
  · have iff : ∀ y, y ∈ ks ↔ y ∈ ls := fun y => (h5 y).trans ((same y).trans (k5 y).symm)
    refine ⟨?_, fun k hk => ?_⟩
    · rw [← h4, ← k4]
      have l1 := nodup_le h3 fun y hy => (iff y).1 hy
      have l2 := nodup_le k3 fun y hy => (iff y).2 hy
      omega
    · obtain ⟨y, hy, e⟩ := (h2 k).1 hk
      exact (k2 k).2 ⟨y, (iff y).1 hy, e⟩
/-- {e for x in l}, l a list, e's values texts; nothing that stood is changed -/
theorem sc_texts {P : Program} {w : World} {K : PySem.W.Frag} {a : Addr} {xs : List V} {ys : List Str} {te : TE} {j : Nat} {σ : L2.St} {H1 : Hp} {D : Addr} {Qd : Hp → Prop} (hx : SqL K H1 a xs) (hD : H1 D = none) (hl : ys.length = xs.length) (hz : ys.length ≤ 1000)
    (el : ∀ (i : Nat) (x : V) (y : Str) (H' : Hp), xs[i]? = some x → ys[i]? = some y → Same H1 H' → ∀ Q : VK, (∀ H'', Same H' H'' → Q (.str y) H'') → te ((wipe σ [j]).set j (some x)) H' Q)
    (hd : ∀ H', Same H1 H' → TxtSet P w H' D ys → Qd H') :
    ∃ M : Nat → Nat → Hp → Prop, (∃ m, M 0 m (upd H1 D (SetK P w D (fun _ => false) 0))) ∧ ∀ i m Hi, M i m Hi → ((Itl K a).stop i Hi ∧ Qd Hi) ∨
      ((Itl K a).go i Hi ∧ ∃ Nx : Hp → Prop, (∀ Hn, Nx Hn → ∃ m', m' < m ∧ M (i + 1) m' Hn) ∧ ∀ x Hx, (Itl K a).yld i Hi x Hx → kTurn P w D (gName j) tYes te [j] Nx σ x Hx) := by
  refine ⟨fun i m H => m = xs.length - i ∧ i ≤ xs.length ∧ Same H1 H ∧ TxtSet P w H D (ys.take i), ⟨xs.length, by simp, Nat.zero_le _, same_new hD _, fun _ => false, 0, [], upd_same, (fun k => by simp), List.nodup_nil, rfl, (fun y => by simp)⟩, ?_⟩
  rintro i m H ⟨rfl, hi, e1, ts⟩
  by_cases lt : i < xs.length
  · have hxi : xs[i]? = some xs[i] := List.getElem?_eq_getElem lt
    have hyi : ys[i]? = some (ys[i]'(by omega)) := List.getElem?_eq_getElem _
    refine .inr ⟨⟨xs, xs[i], e1.seq hx, hxi⟩, fun H => Same H1 H ∧ TxtSet P w H D (ys.take (i + 1)), fun Hn p => ⟨xs.length - (i + 1), by omega, rfl, lt, p.1, p.2⟩, fun x Hx y => ?_⟩
    obtain ⟨eH, y⟩ := y
    subst eH
    have ex : x = xs[i] := Option.some.inj ((y xs (e1.seq hx)).symm.trans hxi)
    subst ex
    refine ⟨wipe1 _ _ _, ?_⟩
    show te ((wipe σ [j]).set j (some xs[i])) _ _
    refine el i _ _ _ hxi hyi e1 _ fun H'' e2 => ?_
    obtain ⟨S, n, ks, h1, h2, h3, h4, h5⟩ := ts
    have len : ks.length ≤ ys.length := nodup_le h3 fun z hz => List.mem_of_mem_take ((h5 z).1 hz)
    refine ⟨Sum.inr (ys[i]'(by omega)), S, n, rfl, e2 _ _ h1, ?_, same_upd (e1.trans e2) hD, ?_⟩
    · show n + 1 < 4096
      omega
    · rw [List.take_succ, hyi]
      generalize ys[i]'(by omega) = t at *
      by_cases q : S (Sum.inr t) = true
      · rw [if_pos q]
        obtain ⟨t', ht', et⟩ := (h2 _).1 q
        cases et
        refine ⟨_, n, ks, upd_same, fun k => ?_, h3, h4, fun z => ?_⟩
        · rw [Bool.or_eq_true, decide_eq_true_eq, h2 k]
          exact ⟨fun z => z.elim id fun z => ⟨t, ht', z⟩, .inl⟩
        · rw [h5 z, List.mem_append]
          refine ⟨.inl, fun h => h.elim id fun h => ?_⟩
          have : z = t := by simpa using h
          rw [this]
          exact (h5 t).1 ht'
      · rw [if_neg q]
        have nin : ¬ t ∈ ks := fun h => q ((h2 _).2 ⟨t, h, rfl⟩)
        refine ⟨_, n + 1, t :: ks, upd_same, fun k => ?_, List.nodup_cons.mpr ⟨nin, h3⟩, by rw [List.length_cons, h4], fun z => ?_⟩
        · rw [Bool.or_eq_true, decide_eq_true_eq, h2 k]
          constructor
          · rintro (⟨y, hy, e⟩ | e)
            · exact ⟨y, List.mem_cons_of_mem _ hy, e⟩
            · exact ⟨t, List.mem_cons_self, e⟩
          · rintro ⟨y, hy, e⟩
            rcases List.mem_cons.mp hy with z | z
            · exact .inr (by rw [e, z])
            · exact .inl ⟨y, z, e⟩
        · rw [List.mem_cons, h5 z, List.mem_append]
          constructor
          · rintro (h | h)
            · exact .inr (by rw [h]; simp)
            · exact .inl h
          · rintro (h | h)
            · exact .inr h
            · exact .inl (by simpa using h)
  · have e : i = xs.length := by omega
    subst e
    rw [← hl, List.take_length] at ts
    exact .inl ⟨⟨xs, e1.seq hx, Nat.le_refl _⟩, hd H e1 ts⟩
end Lm
set_option Elab.async false
set_option linter.all false
set_option maxRecDepth 100000
set_option maxHeartbeats 1000000
/-! sets of texts whose table may be walked: made by a comprehension, sorted -/
namespace Lm
open PySem PySem.Spec PyProof.Rows L2 PpSet
def keyS (e : Int × Value) : Str := match e.2 with | .str k _ => k | _ => Str.empty
def GoodS (w : World) (e : Int × Value) : Prop := ∃ k tk, e.2 = Value.str k tk ∧ e.1 = hashStr w k
/-- the set of the texts ks at a -/
def SetS (w : World) (h : Heap) (a : Addr) (ks : List Str) : Prop :=
  ∃ o es ep t, h.get? a = some o ∧ o.ExactSet ∧ o.data = .set es ep t ∧ (∀ e ∈ es.toList, GoodS w e) ∧ (es.toList.map keyS).Perm ks ∧ ks.Nodup ∧
    es.size < scanBound ∧ t.fits es.size = true ∧ Ris t.place.toList ∧ (w.params.followText "set-order" = true ∨ t.led = true)
section
variable {P : Program} {w : World} {h h' : Heap} {a : Addr} {ks : List Str}
theorem SetS.at (R : SetS w h a ks) (k : ∀ o, h.get? a = some o → h'.get? a = some o) : SetS w h' a ks := by
  obtain ⟨o, es, ep, t, ho, r⟩ := R
  exact ⟨o, es, ep, t, k o ho, r⟩
theorem goodS_elems {l : List (Int × Value)} (g : ∀ e ∈ l, GoodS w e) : ElemsOf (PySem.strKind P w) l := fun e he => by
  obtain ⟨k, tk, h1, h2⟩ := g e he
  exact ⟨⟨k, by rw [h1]; exact PySem.strKind_is P w k tk, h2⟩, by rw [h1] <;> rfl⟩
theorem goodS_is {e : Int × Value} (g : GoodS w e) (k : Str) : (PySem.strKind P w).is k e.2 = true ↔ keyS e = k := by
  obtain ⟨k0, tk, h1, _⟩ := g
  unfold keyS
  rw [h1]
  show (Value.isStrOf k (.str k0 tk) = true) ↔ k0 = k
  show ((k0 == k) = true) ↔ k0 = k
  exact beq_iff_eq
theorem goodS_mem {l : List (Int × Value)} (g : ∀ e ∈ l, GoodS w e) (k : Str) : k ∈ l.map keyS ↔ ∃ e ∈ l, (PySem.strKind P w).is k e.2 = true := by
  rw [List.mem_map]
  constructor
  · rintro ⟨e, he, q⟩
    exact ⟨e, he, (goodS_is (g e he) k).2 q⟩
  · rintro ⟨e, he, q⟩
    exact ⟨e, he, (goodS_is (g e he) k).1 q⟩
end
section
variable {P : Program} {w : World} {A : Around} {E : Value → Shared → Prop} {s : Shared} {a : Addr} {ks : List Str}
theorem setS_add_tail {g : Bool → Sem Unit} (hg : ∀ (b : Bool) (s₁ : Shared) (Q' : Unit → Shared → Prop), Q' () s₁ → wpAny (model P w) A (g b) Q' E s₁)
    {o : Obj} {es : Array (Int × Value)} {ep : Nat} {t : SetTable} (ho : s.heap.get? a = some o) (hex : o.ExactSet) (hd : o.data = .set es ep t)
    {es1 : Array (Int × Value)} {t2 : SetTable} {ks' : List Str} (g1 : ∀ e ∈ es1.toList, GoodS w e) (p1 : (es1.toList.map keyS).Perm ks') (nd1 : ks'.Nodup)
    (hb1 : es1.size < scanBound) (hf2 : t2.fits es1.size = true) (hr : Ris t2.place.toList) (hl : w.params.followText "set-order" = true ∨ t2.led = true) {wasDummy : Bool} {R : Option Bool → Shared → Prop}
    (hR : ∀ h', Heap.SameBut a s.heap h' → SetS w h' a ks' → R (some true) { s with heap := h' }) :
    wpAny (model P w) A (do
        storeSet a es1 t2
        if (!wasDummy && t2.tooFull) = true then do
            g (relayAll t2 es1 (SetTable.grown es1.size)).2.2
            storeSet a (relayAll t2 es1 (SetTable.grown es1.size)).1 (relayAll t2 es1 (SetTable.grown es1.size)).2.1
            pure (some true)
          else pure (some true)) R E s := by
  refine wpAny_bind (wpAny_storeSet_of ho hd ?_ (fits_of_scanBound hb1))
  have ho1 := store_at (es' := es1) (t' := t2) ho hd
  have sb1 := Heap.SameBut.update s.heap a (Obj.putSet es1 t2)
  split
  · have pm := relayAll_perm t2 es1 (SetTable.grown es1.size)
    have hf3 := relayAll_fits t2 es1 (SetTable.grown es1.size)
    have hr3 := relayAll_ris t2 es1 (SetTable.grown es1.size)
    have hl3 := relayAll_led t2 es1 (SetTable.grown es1.size)
    generalize relayAll t2 es1 (SetTable.grown es1.size) = Z at pm hf3 hr3 hl3 ⊢
    obtain ⟨es2, t3, gave⟩ := Z
    dsimp only at pm hf3 hr3 hl3 ⊢
    have hsz : es2.size = es1.size := by rw [← Array.length_toList, pm.length_eq, Array.length_toList]
    have hb2 : es2.size < scanBound := by rw [hsz]; exact hb1
    refine wpAny_bind (hg _ _ _ ?_)
    refine wpAny_bind (wpAny_storeSet_of ho1 rfl ?_ (fits_of_scanBound hb2))
    have ho2 := store_at (es' := es2) (t' := t3) ho1 rfl
    refine wpAny_pure (hR _ (sb1.trans (Heap.SameBut.update _ a _)) ?_)
    exact ⟨_, es2, _, t3, ho2, hex, rfl, fun e he => g1 e (pm.mem_iff.mp he), (pm.map keyS).trans p1, nd1, hb2, hf3, hr3, hl.imp id fun z => by rw [hl3]; exact z⟩
  · exact wpAny_pure (hR _ sb1 ⟨_, es1, _, t2, ho1, hex, rfl, g1, p1, nd1, hb1, hf2, hr, hl⟩)
theorem setS_add_hashed {k : Str} {tk : Tok} {Q : Bool → Shared → Prop} (R : SetS w s.heap a ks) (room : ks.length + 1 < scanBound)
    (hQ : ∀ h', Heap.SameBut a s.heap h' → SetS w h' a (if k ∈ ks then ks else ks ++ [k]) → Q (!decide (k ∈ ks)) { s with heap := h' }) :
    wpAny (model P w) A (setAddHashed a (.str k tk) ((PySem.strKind P w).hash k)) Q E s := by
  obtain ⟨o, es, ep, t, ho, hex, hd, g, pm0, nd, hb, hf, hr, hl⟩ := R
  have hkey : (PySem.strKind P w).is k (.str k tk) = true := PySem.strKind_is P w k tk
  have hsc : (Value.str k tk).scannable = true := rfl
  have hel : ElemsOf (PySem.strKind P w) es.toList := goodS_elems g
  have hsz0 : es.size = ks.length := by rw [← Array.length_toList, ← List.length_map (f := keyS), pm0.length_eq]
  unfold setAddHashed setAddHashedIn
  refine wpAny_holding (wpAny_bind (wpAny_setState_of ho hd hf ?_))
  dsimp only
  rw [byScan_of hsc hb hel]
  simp only [↓reduceIte]
  unfold setAddByScan
  refine wpAny_bind ?_
  refine wpAny_bind (wpAny_rule ?_)
  refine wpAny_bind (wpAny_setScan_of hkey ho hd hf hel ?_)
  cases hfi : List.findIdx? (fun e => (PySem.strKind P w).is k e.2) es.toList with
  | some j =>
    dsimp only
    obtain ⟨hj, pj, _⟩ := List.findIdx?_eq_some_iff_getElem.mp hfi
    have hk : k ∈ ks := pm0.mem_iff.mp ((goodS_mem (P := P) g k).2 ⟨es.toList[j], List.getElem_mem hj, pj⟩)
    refine wpAny_pure (wpAny_pure ?_)
    have q := hQ s.heap (Heap.SameBut.refl a s.heap) ⟨o, es, ep, t, ho, hex, hd, g, by rw [if_pos hk]; exact pm0, by rw [if_pos hk]; exact nd, hb, hf, hr, hl⟩
    rw [decide_eq_true hk] at q
    exact q
  | none =>
    dsimp only
    have hnk : k ∉ ks := fun z => by
      obtain ⟨e, he, q⟩ := (goodS_mem (P := P) g k).1 (pm0.mem_iff.mpr z)
      have c := List.findIdx?_eq_none_iff.mp hfi e he
      rw [q] at c
      cases c
    have hgw : ∀ (b : Bool) {s₁ : Shared} {Q' : Unit → Shared → Prop}, Q' () s₁ → wpAny (model P w) A (match b with | true => rule "set.scan.the-table-gave-way" | false => pure ()) Q' E s₁ :=
      fun b s₁ Q' q => by cases b <;> first | exact wpAny_pure q | exact wpAny_rule q
    have pm := layNew_perm t es ((PySem.strKind P w).hash k) (.str k tk)
    have hf1 := layNew_fits t es ((PySem.strKind P w).hash k) (.str k tk)
    have hr1 := layNew_ris t es ((PySem.strKind P w).hash k) (.str k tk) hr
    have hl1 := layNew_led t es ((PySem.strKind P w).hash k) (.str k tk)
    generalize layNew t es ((PySem.strKind P w).hash k) (.str k tk) = Z at pm hf1 hr1 hl1 ⊢
    obtain ⟨es1, t1, wasDummy, gave⟩ := Z
    dsimp only at pm hf1 hr1 hl1 ⊢
    rw [Array.toList_push] at pm
    have pk : (es1.toList.map keyS).Perm (ks ++ [k]) := (pm.map keyS).trans (by
      rw [List.map_append]
      exact pm0.append_right _)
    have g1 : ∀ e ∈ es1.toList, GoodS w e := fun e he => by
      rcases List.mem_append.mp (pm.mem_iff.mp he) with z | z
      · exact g e z
      · rw [List.mem_singleton.mp z]; exact ⟨k, tk, rfl, rfl⟩
    have nd1 : (ks ++ [k]).Nodup := by
      rw [List.nodup_append]
      refine ⟨nd, by simp, fun x hx y hy e => ?_⟩
      rw [List.mem_singleton.mp hy] at e
      exact hnk (e ▸ hx)
    have hsz : es1.size = ks.length + 1 := by rw [← Array.length_toList, ← List.length_map (f := keyS), pk.length_eq, List.length_append, List.length_singleton]
    have hb1 : es1.size < scanBound := by rw [hsz]; exact room
    have hled : w.params.followText "set-order" = true ∨ t1.led = true := hl.imp id fun z => by rw [hl1]; exact z
    have fin : ∀ h', Heap.SameBut a s.heap h' → SetS w h' a (ks ++ [k]) → Q true { s with heap := h' } := fun h' sb r => by
      have q := hQ h' sb (by rw [if_neg hnk]; exact r)
      rw [decide_eq_false hnk] at q
      exact q
    refine wpAny_bind (hgw _ ?_)
    split
    · refine wpAny_bind ?_
      rw [hashByValue_scannable 8 hsc]
      refine wpAny_pure ?_
      refine setS_add_tail ?_ ho hex hd g1 pk nd1 hb1 ?_ ?_ ?_ ?_
      · intro b s₁ Q' q; cases b <;> first | exact wpAny_pure q | exact wpAny_rule q
      · first | (split <;> first | exact hf1 | exact SetTable.fits_plain_off hf1) | exact hf1
      · first | (split <;> exact hr1) | exact hr1
      · first | (split <;> exact hled) | exact hled
      · intro h' sb r; dsimp only; exact wpAny_pure (fin h' sb r)
    · refine wpAny_bind (wpAny_pure ?_)
      simp only [↓reduceIte]
      refine setS_add_tail ?_ ho hex hd g1 pk nd1 hb1 hf1 hr1 hled ?_
      · intro b s₁ Q' q; cases b <;> first | exact wpAny_pure q | exact wpAny_rule q
      · intro h' sb r; dsimp only; exact wpAny_pure (fin h' sb r)
theorem SetS.typeIs (R : SetS w s.heap a ks) : s.TypeIs (.ref a) "set" := by
  obtain ⟨o, es, ep, t, ho, hex, _⟩ := R
  exact ⟨o, ho, hex.1⟩
/-- found.add(k) -/
theorem setS_add {k : Str} {tk : Tok} {Q : Value → Shared → Prop} (R : SetS w s.heap a ks) (room : ks.length + 1 < scanBound)
    (hQ : ∀ h', Heap.SameBut a s.heap h' → SetS w h' a (if k ∈ ks then ks else ks ++ [k]) → Q .none { s with heap := h', toks := s.toks + 1 }) :
    wpAny (model P w) A (call (.builtin "set.add") [.ref a, .str k tk]) Q E s := by
  refine wpAny_call_entry F.slot_set_add R.typeIs F.entry_set_add ?_ (F.args_set_add_2 _ _)
  unfold Builtin.«set.add» Builtin.Frozenset.oneOther
  simp only [List.isEmpty_nil, bind_assoc]
  unfold Builtin.Frozenset.addrOf setAdd
  refine wpAny_bind (wpAny_pure ?_)
  try dsimp only
  refine wpAny_bind (wpAny_pure ?_)
  try dsimp only
  refine wpAny_bind ?_
  refine wpAny_holding ?_
  refine wpAny_bind ((PySem.strKind P w).pyHash (PySem.strKind_is P w k tk) ?_)
  refine setS_add_hashed (s := { s with toks := s.toks + 1 }) R room fun h' sb r => ?_
  show wpAny _ _ (ret Value.none) _ _ _
  exact wpAny_pure ⟨_, rfl, hQ h' sb r⟩
theorem setS_fresh {h : Heap} (w : World) : SetS w (h.push { cls := .type "set", dict := none, data := .set #[] 0 (.fresh 0 0 (!w.params.followText "set-order")) }) h.objs.size [] := by
  obtain ⟨o, es, ep, t, ho, hex, hd, g, nd, hm, hb, hf, hn, hr, hl⟩ := setR_fresh (h := h) w
  have hz : es.toList = [] := by
    have : es.size = 0 := hn
    rw [← Array.length_toList] at this
    exact List.eq_nil_of_length_eq_zero this
  exact ⟨o, es, ep, t, ho, hex, hd, fun e he => (by rw [hz] at he; cases he), by rw [hz]; exact .nil, List.nodup_nil, hb, hf, hr, hl⟩
/-! ### sorted -/
theorem strs_of : ∀ (l : List Value), (∀ v ∈ l, ∃ k tk, v = Value.str k tk) → StrsAre l (l.map fun v => keyS (0, v))
  | [], _ => .nil
  | v :: l, h => by
    obtain ⟨k, tk, rfl⟩ := h v List.mem_cons_self
    exact .cons k tk (strs_of l fun u hu => h u (List.mem_cons_of_mem _ hu))
end
end Lm
set_option Elab.async false
set_option linter.all false
set_option maxRecDepth 100000
set_option maxHeartbeats 1000000
/-! sets of texts by a comprehension; sorted -/
namespace Lm
open PySem PySem.Spec PyProof.Rows L2 PpSet
def SetSO (w : World) (a : Addr) (ks : List Str) : HO := .ext fun h => SetS w h a ks
section
variable {X : Cx}
theorem setS_new {w : World} {P : Program} {H : Hp} {h : Heap} {a : Addr} {ks : List Str} (R : SetS w h a ks) : ObjOk P w H h a (SetSO w a ks) := by
  have ⟨o, _, _, _, ho, _⟩ := R
  exact ⟨R, ⟨o, ho⟩, fun h1 h2 p k => SetS.at p k⟩
theorem setS_get {pins : List (Addr × Obj)} {σ : L2.St} {H : Hp} {s : Shared} {a : Addr} {ks : List Str} (I : Inv X pins σ H s) (ha : H a = some (SetSO X.w a ks)) : SetS X.w s.heap a ks := (I.hok a _ ha).1
def rSAddS (w : World) : V → List V → Hp → VK → Prop := fun x xs H Q => ∃ (a : Addr) (k : Str) (ks : List Str), x = V.ref a ∧ xs = [.str k] ∧ H a = some (SetSO w a ks) ∧ ks.length + 1 < scanBound ∧ Q .non (upd H a (SetSO w a (if k ∈ ks then ks else ks ++ [k])))
theorem mt_saddS : MtR X "set.add" (rSAddS X.w) := by
  intro pins s σ H x xs v us Q I rx rxs h
  obtain ⟨a, k, ks, rfl, rfl, ha, room, q⟩ := h
  cases rx
  cases rxs with
  | cons ry rt =>
    cases rt
    obtain ⟨tk, rfl⟩ := ry
    refine setS_add (setS_get I ha) room fun h' sb new => ?_
    have he : ∃ u, h'.get? a = some u := by
      have ⟨o, _, _, _, ho, _⟩ := new
      exact ⟨o, ho⟩
    exact ⟨.non, upd H a (SetSO X.w a (if k ∈ ks then ks else ks ++ [k])), I.write (e := a) (t' := s.toks + 1) (by rw [ha]; trivial) (.inl rfl) (fun b u hb hu => (sb.2 b hb).trans hu) he (setS_new new), rfl, q⟩
/-- one turn is told by Nx, D the set -/
def sTurn (w : World) (D : Addr) (g : TG) (tt : TT) (te : TE) (vs : List Nat) (Nx : Hp → Prop) (σ : L2.St) (x : V) (Hx : Hp) : Prop :=
  g x (wipe σ vs) Hx fun σt Ht => wipe σt vs = wipe σ vs ∧ tt σt Ht fun b Hb =>
    if b = true then te σt Hb fun y He => ∃ (k : Str) (ks : List Str), y = .str k ∧ He D = some (SetSO w D ks) ∧ ks.length + 1 < scanBound ∧ Nx (upd He D (SetSO w D (if k ∈ ks then ks else ks ++ [k]))) else Nx Hb
/-- {elt for target in iter if ..} -/
def tScS (w : World) (wi : TI) (g : TG) (tt : TT) (te : TE) (vs : List Nat) : TE := fun σ H Q => wi σ H fun J H1 => ∀ D, H1 D = none →
  ∃ M : Nat → Nat → Hp → Prop, (∃ m, M 0 m (upd H1 D (SetSO w D []))) ∧ ∀ i m Hi, M i m Hi → (J.stop i Hi ∧ Q (.ref D) Hi) ∨
    (J.go i Hi ∧ ∃ Nx : Hp → Prop, (∀ Hn, Nx Hn → ∃ m', m' < m ∧ M (i + 1) m' Hn) ∧ ∀ x Hx, J.yld i Hi x Hx → sTurn w D g tt te vs Nx σ x Hx)
/-- from the set's making on, in the state S -/
theorem scS_run {pins : List (Addr × Obj)} {σ : L2.St} {Hc : Hp} {S : Shared} {Q : VK} {it D : Addr} {fp : List Addr} {tn : Nat → Heap → Prop} {J : It} {elt tg iter : Expr} {ifs : List Expr} {sc : Scope} {own : List (PySem.Str × Nat)} {pos : Pos} {g : TG} {tt : TT} {te : TE} {M : Nat → Nat → Hp → Prop} {m0 : Nat}
    (calm : X.calm = true) (nd : X.N.Nodup) (bo : BlkOk X.N X.env.scope sc own) (I : Inv X pins σ Hc S) (T : Turn X.prog X.w X.K tg J fp it tn) (st : tn 0 S.heap) (fc : ∀ b ∈ fp, FpOk X pins Hc b ∧ b < S.heap.objs.size) (w0 : M 0 m0 Hc)
    (turn : ∀ i m Hi, M i m Hi → (J.stop i Hi ∧ Q (.ref D) Hi) ∨ (J.go i Hi ∧ ∃ Nx : Hp → Prop, (∀ Hn, Nx Hn → ∃ m', m' < m ∧ M (i + 1) m' Hn) ∧ ∀ x Hx, J.yld i Hi x Hx → sTurn X.w D g tt te (own.map (·.2)) Nx σ x Hx))
    (hg : ∀ (s : Shared) (H : Hp) (C : Addr) (cl : List (PySem.Str × Addr)) (fp : List Addr), PG (X.blk s H sc (compEnvC sc cl C X.env) fp) tg g)
    (ht : ∀ (s : Shared) (H : Hp) (C : Addr) (cl : List (PySem.Str × Addr)) (fp : List Addr), PTs (X.blk s H sc (compEnvC sc cl C X.env) fp) ifs tt)
    (he : ∀ (s : Shared) (H : Hp) (C : Addr) (cl : List (PySem.Str × Addr)) (fp : List Addr), PE (X.blk s H sc (compEnvC sc cl C X.env) fp) elt te) :
    codeAny (model X.prog X.w) X.A (.compStart (.SetComp elt [⟨tg, iter, ifs, 0⟩] sc pos) 0 (.ref it) (.ref D) (compEnvC sc (cellsFrom (S.heap.objs.size + 1) sc.names (cloFrom X.env.cells sc.names [])) S.heap.objs.size X.env)) (compPost (model X.prog X.w) X.A X.xe none (EP X pins σ Q) (.ref D) S.heap.objs.size)
      { S with heap := pushCells (S.heap.push { cls := .type "dict", data := .dict #[] }) sc.names } := by
  have K0 := block_start I bo nd fc
  have pg := hg S Hc S.heap.objs.size (cellsFrom (S.heap.objs.size + 1) sc.names (cloFrom X.env.cells sc.names [])) fp
  have pt := ht S Hc S.heap.objs.size (cellsFrom (S.heap.objs.size + 1) sc.names (cloFrom X.env.cells sc.names [])) fp
  have pe := he S Hc S.heap.objs.size (cellsFrom (S.heap.objs.size + 1) sc.names (cloFrom X.env.cells sc.names [])) fp
  have place : (compEnvC sc (cellsFrom (S.heap.objs.size + 1) sc.names (cloFrom X.env.cells sc.names [])) S.heap.objs.size X.env).locals = S.heap.objs.size := rfl
  have st0 : tn 0 (pushCells (S.heap.push { cls := .type "dict", data := .dict #[] }) sc.names) := T.keep _ _ _ st fun b _ o e => pushCells_keeps _ _ _ _ (Heap.get?_push_of_some _ e)
  generalize compEnvC sc (cellsFrom (S.heap.objs.size + 1) sc.names (cloFrom X.env.cells sc.names [])) S.heap.objs.size X.env = ce at K0 pg pt pe place ⊢
  have free0 : ∀ b ∈ fp, Hc b = none := fun b hb => (fc b hb).1.1
  have kept : ∀ {σ' : L2.St} {H' : Hp} {z : Shared}, Inv (X.blk S Hc sc ce fp) [] σ' H' z → (∀ b ∈ fp, H' b = none) → ∀ b ∈ fp, FpOk (X.blk S Hc sc ce fp) [] H' b := fun {σ' H' z} L n b hb => by
    have e1 := L.ok.exf b hb
    exact ⟨n b hb, e1.1, L.ok.exfs b hb, .inl hb, fun x c e => e1.2 x c e, fun y hy => absurd (show y ∈ ([] : List (Addr × Obj)) ++ [] from hy) (by simp)⟩
  have loop : codeAny (model X.prog X.w) X.A (.compLoop (.SetComp elt [⟨tg, iter, ifs, 0⟩] sc pos) 0 (.ref it) (.ref D) ce) (compPost (model X.prog X.w) X.A X.xe none (EP X pins σ Q) (.ref D) S.heap.objs.size)
      { S with heap := pushCells (S.heap.push { cls := .type "dict", data := .dict #[] }) sc.names } := by
    refine compLoopS_any (fun n z => ∃ i Hi, Inv (X.blk S Hc sc ce fp) [] (wipe σ (own.map (·.2))) Hi z ∧ tn i z.heap ∧ (∀ b ∈ fp, Hi b = none) ∧ M i n Hi) ?_ m0 ⟨0, Hc, K0, st0, free0, w0⟩
    rintro n z ⟨i, Hi, Iz, sz, nz, wz⟩
    rcases turn i n Hi wz with ⟨stop, last⟩ | ⟨go, Nx, less, step⟩
    · refine thnF (T.done (X.blk S Hc sc ce fp) rfl rfl rfl calm i [] z _ Hi (fun _ _ => False) Iz (kept Iz nz) sz stop) fun r y ⟨rn, Iy⟩ => ?_
      subst rn
      have out : Inv X pins σ Hi y := I.call' (ch := fp) Iy.os Iy.base Iy.hok Iy.bare fun b hb => ⟨(fc b hb).1.2.2.2.1, (fc b hb).1.2.1, (fc b hb).1.2.2.2.2.1, (fc b hb).1.2.2.2.2.2⟩
      have nc : Hi ce.locals = none := Iy.free
      obtain ⟨m, hn, _⟩ := Iy.loc
      have hn : y.heap.Ns ce.locals m := hn
      rw [place] at nc hn
      obtain ⟨f0, f1, _, f3, f4, f5⟩ := I.fpOk (H' := Hi) (Nat.le_refl _) nc
      exact ⟨m, hn, fun h' sb => ⟨.ref D, Hi, out.turned (t' := y.toks) (fun b o hb e => (sb.2 b hb).trans e) f0 f1 f3 f4 f5, rfl, last⟩⟩
    · refine thnF (T.item (X.blk S Hc sc ce fp) rfl rfl rfl calm i [] z _ Hi (fun _ _ => False) Iz (kept Iz nz) sz go) fun r y ⟨u, ru, hy⟩ => ?_
      subst ru
      refine thnF hy fun _ y1 ⟨x, Hx, I1, rx, yx, s1, n1⟩ => ?_
      have I1p := I1.pinned (kept I1 n1) (T.obj _ _ s1)
      refine thnF (pg.run _ y1 _ Hx x u _ I1p rx (step x Hx yx)) fun _ y2 ⟨σ2, H2, I2, e2, q2⟩ => ?_
      refine thnF (pt.run _ y2 σ2 H2 _ I2 q2) fun b y3 ⟨H3, I3, q3⟩ => ?_
      have again : ∀ {y4 : Shared} {H4 : Hp}, Inv (X.blk S Hc sc ce fp) ([] ++ pinsAt fp y1.heap) σ2 H4 y4 → Nx H4 → ∃ m, m < n ∧ ∃ i Hi, Inv (X.blk S Hc sc ce fp) [] (wipe σ (own.map (·.2))) Hi y4 ∧ tn i y4.heap ∧ (∀ b ∈ fp, Hi b = none) ∧ M i m Hi := fun {y4 H4} I4 nx => by
        obtain ⟨m', lt, w'⟩ := less H4 nx
        have stay : ∀ b ∈ fp, ∀ o, y1.heap.get? b = some o → y4.heap.get? b = some o ∧ H4 b = none := fun b hb o e => by
          have p := I4.pin (b, o) (List.mem_append_right _ (List.mem_append_right _ (mem_pinsAt hb e)))
          exact ⟨p.1, p.2.1⟩
        refine ⟨m', lt, i + 1, H4, (I4.unpinned (pins := [])).weak (by rw [← e2, wipe_length]) (fun j v e => ?_), T.keep _ _ _ s1 fun b hb o e => (stay b hb o e).1, fun b hb => ?_, w'⟩
        · rw [← e2] at e
          exact (wipe_some e).1
        · obtain ⟨o, e, _⟩ := T.obj _ _ s1 b hb
          exact (stay b hb o e).2
      cases b with
      | false =>
        simp only [Bool.false_eq_true, if_false] at q3 ⊢
        exact again I3 q3
      | true =>
        simp only [if_true] at q3 ⊢
        refine thnF (pe.run _ y3 σ2 H3 _ I3 q3) fun v y4 ⟨yv, H4, I4, r4, k, ks0, ey, hD, room, nx⟩ => ?_
        subst ey
        refine wpAny_mono (mt_saddS (X := X.blk S Hc sc ce fp) _ y4 σ2 H4 (.ref D) [.str k] (.ref D) [v] (fun _ H5 => Nx H5) I4 rfl (.cons r4 .nil) ⟨D, k, ks0, rfl, rfl, hD, room, nx⟩) (fun _ y5 ⟨_, H5, I5, _, nx5⟩ => again I5 nx5) fun _ _ z => False.elim z
  exact codeAny_compStart_set loop (T.self X.A 0 _ _ _ st0 loop)
/-- the comprehension, as a value -/
theorem pe_scS {elt tg iter : Expr} {ifs : List Expr} {sc : Scope} {own : List (PySem.Str × Nat)} {pos : Pos} {wi : TI} {g : TG} {tt : TT} {te : TE} (calm : X.calm = true) (nd : X.N.Nodup) (hi : PI X tg iter wi) (bo : BlkOk X.N X.env.scope sc own)
    (hg : ∀ (s : Shared) (H : Hp) (C : Addr) (cl : List (PySem.Str × Addr)) (fp : List Addr), PG (X.blk s H sc (compEnvC sc cl C X.env) fp) tg g)
    (ht : ∀ (s : Shared) (H : Hp) (C : Addr) (cl : List (PySem.Str × Addr)) (fp : List Addr), PTs (X.blk s H sc (compEnvC sc cl C X.env) fp) ifs tt)
    (he : ∀ (s : Shared) (H : Hp) (C : Addr) (cl : List (PySem.Str × Addr)) (fp : List Addr), PE (X.blk s H sc (compEnvC sc cl C X.env) fp) elt te)
    (fold : ∀ x, foldedSetIterable iter X.env x = pure x := by intro _; rfl) :
    PE X (.SetComp elt [⟨tg, iter, ifs, 0⟩] sc pos) (tScS X.w wi g tt te (own.map (·.2))) := by
  refine ⟨fun pins s σ H Q I h => ?_⟩
  rw [eval_SetComp]
  have caught : ∀ y ∈ sc.names, y.2 = .free → ∃ c, X.env.cells.lookup y.1 = some c := fun y hy e => (bo.free y hy e).elim (fun z => I.ok.has _ (.inl z)) fun z => I.ok.has _ (.inr z)
  refine wpAny_comprehension_free rfl fold (closure_ok caught) bo.kind (fun y hy e => by rw [bo.uniq y hy, e]) (thn (hi.run pins s σ H _ I h) fun _ sa hx => thn hx fun _ sb h2 => ?_)
  obtain ⟨it, fp, tn, J, Hb, rfl, Ib, T, stb, fb, q⟩ := h2
  refine newSet_ok (newEnv_comp ?_)
  -- the set's place D, the state sc with the set
  have nD : Hb sb.heap.objs.size = none := Ib.hok.fresh (Nat.le_refl _)
  obtain ⟨M, ⟨m0, w0⟩, turn⟩ := q sb.heap.objs.size nD
  have setAt := setS_fresh (h := sb.heap) X.w
  have grown : ∀ b o, sb.heap.get? b = some o → (sb.heap.push { cls := .type "set", dict := none, data := .set #[] 0 (.fresh 0 0 (!X.w.params.followText "set-order")) }).get? b = some o := fun b o e => Heap.get?_push_of_some _ e
  have Ic := Ib.laid (t' := sb.toks) grown (Nat.le_refl _) (setS_new setAt)
  have low : ∀ b ∈ fp, b < sb.heap.objs.size := fun b hb => (T.obj _ _ stb b hb).elim fun o e => Heap.lt_size e.1
  have fc : ∀ b ∈ fp, FpOk X pins (upd Hb sb.heap.objs.size (SetSO X.w sb.heap.objs.size [])) b ∧ b < (sb.heap.push { cls := .type "set", dict := none, data := .set #[] 0 (.fresh 0 0 (!X.w.params.followText "set-order")) }).objs.size := fun b hb =>
    ⟨⟨by rw [upd_ne (Nat.ne_of_lt (low b hb))]; exact (fb b hb).1, (fb b hb).2⟩, by rw [Heap.size_push]; exact Nat.lt_succ_of_lt (low b hb)⟩
  have stc := T.keep _ _ _ stb fun b _ o e => grown b o e
  generalize sb.heap.objs.size = D at nD w0 turn setAt Ic fc ⊢
  generalize upd Hb D (SetSO X.w D []) = Hc at w0 Ic fc ⊢
  generalize (sb.heap.push { cls := .type "set", dict := none, data := .set #[] 0 (.fresh 0 0 (!X.w.params.followText "set-order")) }) = hc at setAt Ic fc stc grown ⊢
  exact scS_run calm nd bo Ic T stc fc w0 turn hg ht he
end
theorem strs_perm {w : World} {vs : List Value} {es : List (Int × Value)} (p : vs.Perm (es.map (·.2))) (g : ∀ e ∈ es, GoodS w e) : StrsAre vs (vs.map fun v => keyS (0, v)) ∧ (vs.map fun v => keyS (0, v)).Perm (es.map keyS) := by
  refine ⟨strs_of vs fun v hv => ?_, ?_⟩
  · obtain ⟨e, he, q⟩ := List.mem_map.mp (p.mem_iff.mp hv)
    obtain ⟨k, tk, h1, _⟩ := g e he
    exact ⟨k, tk, by rw [← q]; exact h1⟩
  · have q := p.map fun v => keyS (0, v)
    rw [List.map_map] at q
    exact q
section
variable {X : Cx}
/-- sorted(texts), a set of fewer than 64 -/
def rSortedTx (w : World) : List V → Hp → VK → Prop := fun vs H Q => ∃ (a : Addr) (ks : List Str), vs = [V.ref a] ∧ H a = some (SetSO w a ks) ∧ ks.length < 64 ∧ ∀ (ys : List Str) (p : Addr), ys.Perm ks → sortedS ys = true → H p = none → Q (.ref p) (upd H p (.lst (ys.map V.str)))
theorem cr_sortedTx (hc : X.calm = true) : CallR X (.builtin "sorted") (rSortedTx X.w) := by
  intro pins s σ H vs us Q I r h
  obtain ⟨a, ks, rfl, ha, h64, q⟩ := h
  obtain ⟨o, es, ep, t, ho, hex, hd, g, pm0, nd, hb, hf, hr, hl⟩ := setS_get I ha
  rw [Vals.ref1 r]
  refine Calls.call_function_entry PyProof.Rows.kind_sorted PyProof.Rows.plain_sorted PyProof.Rows.entry_sorted (PyProof.Rows.args_sorted1 _) ?_
  unfold Builtin.«sorted»
  refine wpAny_bind (m := checkCount "sorted" 1 1 _) (wpAny_pure ?_)
  refine wpAny_bind (collect_set (A := X.A.in1) (I.ok.hd hc) ⟨o, ho, hex.1, hd⟩ hf hb hr hl fun s1 vs k1 hz g1 o1 pm => ?_)
  obtain ⟨hS, pk⟩ := strs_perm pm g
  have pk2 := pk.trans pm0
  have hvl : vs.length = ks.length := by rw [← List.length_map (f := fun v => keyS (0, v)), pk2.length_eq]
  refine wpAny_bind (wpAny_newList ?_ (by rw [hvl, sizeLine_eq]; omega))
  have hoL : (s1.heap.push (seqObj "list" vs.toArray 0)).get? s1.heap.objs.size = some (seqObj "list" vs.toArray 0) := Heap.get?_push_size _ rfl
  show wpAny _ _ _ _ _ { s1 with heap := s1.heap.push (seqObj "list" vs.toArray 0) }
  refine wpAny_bind (wpAny_holding (wpAny_call_entry PyProof.Rows.slot_list_sort ⟨_, hoL, rfl⟩ PyProof.Rows.entry_list_sort
    (list_sort_treeK strKind_oneLt (s := { s1 with heap := s1.heap.push (seqObj "list" vs.toArray 0) }) hoL hS.keysOf (fun v₁ v₂ rest e => keyKind_strs (by rw [← e]; exact hS)) (by rw [hvl]; exact h64) fun st' hp hs => ⟨_, rfl, ?_⟩)
    (PyProof.Rows.args_list_sort _)))
  obtain ⟨ys, q1, q2, q3⟩ := sorted_out_str hS hp hs
  obtain ⟨e', he'⟩ := PyProof.Rows.sortedHeap_at (vs := vs) (out := (arrOf st').map (·.2)) hoL
  have hlen : (ys.map V.str).length ≤ sizeLine := by
    rw [List.length_map, (q2.trans pk2).length_eq]
    exact Nat.le_trans (Nat.le_of_lt h64) (by decide)
  have k : ∀ b u, s.heap.get? b = some u → (sortedHeap (s1.heap.push (seqObj "list" vs.toArray 0)) s1.heap.objs.size vs ((arrOf st').map (·.2))).get? b = some u := fun b u e => by
    have e1 := k1 b u e
    have hb : b < s1.heap.objs.size := Heap.lt_size e1
    rw [PyProof.Rows.sortedHeap_old (Nat.ne_of_lt hb) (by rw [size_push']; exact Nat.lt_succ_of_lt hb)]
    exact Heap.get?_push_of_some _ e1
  have hn : H s1.heap.objs.size = none := I.hok.fresh hz
  refine wpAny_pure ⟨_, rfl, ?_⟩
  have J : Inv X pins σ (upd H s1.heap.objs.size (.lst (ys.map V.str))) { s with heap := sortedHeap (s1.heap.push (seqObj "list" vs.toArray 0)) s1.heap.objs.size vs ((arrOf st').map (·.2)), gens := s1.gens, drawn := s1.drawn, toks := s1.toks } :=
    I.call (ch := []) (Un.laid k hz hn) (I.hok.laid k hz ⟨hlen, ((arrOf st').map (·.2)).toList, e', vals_of_strs q1, by rw [Array.toArray_toList]; exact he'⟩) (by rw [g1]; exact I.bare) (fun _ z => nomatch z)
  exact ⟨.ref s1.heap.objs.size, _, by first | exact J | (cases s1; cases s; cases o1; exact J), rfl, q ys _ (q2.trans pk2) q3 hn⟩
end
/-- {e for x in l}, l a list, e's values texts; nothing that stood is changed -/
theorem sc_txts {w : World} {K : PySem.W.Frag} {a : Addr} {xs : List V} {ys : List Str} {te : TE} {j : Nat} {σ : L2.St} {H1 : Hp} {Q : VK} (hx : SqL K H1 a xs) (hl : ys.length = xs.length) (hz : ys.length ≤ 1000)
    (el : ∀ (i : Nat) (x : V) (y : Str) (H' : Hp), xs[i]? = some x → ys[i]? = some y → Same H1 H' → ∀ Q : VK, (∀ H'', Same H' H'' → Q (.str y) H'') → te ((wipe σ [j]).set j (some x)) H' Q)
    (q : ∀ D ks H', Same H1 H' → H1 D = none → H' D = some (SetSO w D ks) → ks.Nodup → (∀ y, y ∈ ks ↔ y ∈ ys) → ks.length ≤ ys.length → Q (.ref D) H') (tl : TE) (ht : ∀ R : VK, R (.ref a) H1 → tl σ H1 R) : tScS w (iList K tl) (gName j) tYes te [j] σ H1 Q := by
  refine ht _ ⟨a, rfl, ⟨xs, hx⟩, fun D nD => ?_⟩
  refine ⟨fun i m H => m = xs.length - i ∧ i ≤ xs.length ∧ Same H1 H ∧ ∃ ks : List Str, H D = some (SetSO w D ks) ∧ ks.Nodup ∧ (∀ y, y ∈ ks ↔ y ∈ ys.take i) ∧ ks.length ≤ i, ⟨_, rfl, Nat.zero_le _, same_new nD _, [], upd_same, List.nodup_nil, by simp, Nat.le_refl _⟩, ?_⟩
  rintro i m H ⟨rfl, ile, s, ks, hD, nd, mem, kl⟩
  by_cases c : i < xs.length
  · have hi : xs[i]? = some xs[i] := List.getElem?_eq_getElem c
    have hy : ys[i]? = some ys[i] := List.getElem?_eq_getElem (by omega)
    refine .inr ⟨⟨xs, xs[i], s.seq hx, hi⟩, fun H' => Same H1 H' ∧ ∃ ks : List Str, H' D = some (SetSO w D ks) ∧ ks.Nodup ∧ (∀ y, y ∈ ks ↔ y ∈ ys.take (i + 1)) ∧ ks.length ≤ i + 1, fun H' nx => ⟨_, by omega, rfl, c, nx⟩, fun x Hx y => ?_⟩
    obtain ⟨rfl, y⟩ := y
    have ex := y xs (s.seq hx)
    refine ⟨wipe1 _ _ _, ?_⟩
    dsimp only [tYes]
    rw [if_pos rfl]
    refine el i x ys[i] Hx ex hy s _ fun H2 e2 => ?_
    refine ⟨ys[i], ks, rfl, e2 _ _ hD, ?_, same_upd (s.trans e2) nD, _, upd_same, ?_, ?_, ?_⟩
    · have : (1001 : Nat) < scanBound := by decide
      omega
    · split
      · exact nd
      · rename_i hn
        rw [List.nodup_append]
        refine ⟨nd, by simp, fun a ha b hb e => ?_⟩
        rw [List.mem_singleton.mp hb] at e
        exact hn (e ▸ ha)
    · intro z
      rw [List.take_succ, hy, Option.toList_some, List.mem_append, ← mem z]
      split
      · rename_i hin
        constructor
        · exact .inl
        · rintro (h | h)
          · exact h
          · rw [List.mem_singleton.mp h]; exact hin
      · rw [List.mem_append]
    · split
      · omega
      · rw [List.length_append, List.length_singleton]; omega
  · have e : i = xs.length := by omega
    subst e
    refine .inl ⟨⟨xs, s.seq hx, Nat.le_refl _⟩, q D ks H s nD hD nd ?_ (by omega)⟩
    intro y
    rw [mem y, ← hl, List.take_length]
end Lm
set_option Elab.async false
set_option linter.all false
set_option maxRecDepth 100000
set_option maxHeartbeats 1000000
/-! the text of a side, of a claim -/
namespace Lm
open PySem PySem.Spec PyProof.Rows L2 PpSet
theorem risingS_pair : ∀ (ys : List Str) (p : Str), risingS p ys = true → (p :: ys).Pairwise fun a b => a.cps.toList ≤ b.cps.toList
  | [], p, _ => List.pairwise_singleton _ _
  | x :: r, p, h => by
    rw [risingS, Bool.and_eq_true, ltCps_eq, Bool.not_eq_true', decide_eq_false_iff_not, List.not_lt] at h
    have ih := risingS_pair r x h.2
    refine List.pairwise_cons.mpr ⟨fun z hz => ?_, ih⟩
    rcases List.mem_cons.mp hz with rfl | hz
    · exact h.1
    · exact List.le_trans h.1 ((List.pairwise_cons.mp ih).1 z hz)
theorem sortedS_pair : ∀ (ys : List Str), sortedS ys = true → ys.Pairwise fun a b => a.cps.toList ≤ b.cps.toList
  | [], _ => .nil
  | x :: r, h => risingS_pair r x h
theorem str_ext {x y : Str} (h : x.cps.toList = y.cps.toList) : x = y := by
  cases x
  cases y
  congr 1
  exact Array.toList_inj.mp h
theorem sorted_uniq {ys zs : List Str} (h1 : sortedS ys = true) (h2 : sortedS zs = true) (n1 : ys.Nodup) (n2 : zs.Nodup) (m : ∀ y, y ∈ ys ↔ y ∈ zs) : ys = zs :=
  List.Perm.eq_of_pairwise (fun a b _ _ p q => str_ext (List.le_antisymm p q)) (sortedS_pair _ h1) (sortedS_pair _ h2) ((List.perm_ext_iff_of_nodup n1 n2).mpr m)
/-- F: what stands in L, once each, by the order of the texts -/
def Side (L F : List Fm) : Prop := F.Nodup ∧ (∀ f, f ∈ F ↔ f ∈ L) ∧ sortedS (F.map spS) = true
def sideTx (F : List Fm) : Str := Txt.join (";" : Str) (F.map spS)
def clTx (F G : List Fm) : Str := ((Str.empty ++ sideTx F) ++ ("|" : Str)) ++ sideTx G
def ClT (L R : List Fm) (y : Str) : Prop := ∃ F G, Side L F ∧ Side R G ∧ y = clTx F G
theorem gd_side {L F : List Fm} (g : Gd L) (s : Side L F) : Gd F := fun f hf => g f ((s.2.1 f).1 hf)
theorem map_spS_nodup : ∀ {F : List Fm}, Gd F → F.Nodup → (F.map spS).Nodup
  | [], _, _ => List.nodup_nil
  | f :: F, g, n => by
    rw [List.map_cons, List.nodup_cons]
    have n' := List.nodup_cons.mp n
    refine ⟨fun h => ?_, map_spS_nodup (fun x hx => g x (List.mem_cons_of_mem _ hx)) n'.2⟩
    obtain ⟨k, hk, e⟩ := List.mem_map.mp h
    have := spS_inj (g k (List.mem_cons_of_mem _ hk)).1 (g f List.mem_cons_self).1 e
    exact n'.1 (this ▸ hk)
theorem map_spS_inj : ∀ {F G : List Fm}, Gd F → Gd G → F.map spS = G.map spS → F = G
  | [], [], _, _, _ => rfl
  | [], _ :: _, _, _, h => nomatch h
  | _ :: _, [], _, _, h => nomatch h
  | f :: F, k :: G, g, h, e => by
    rw [List.map_cons, List.map_cons] at e
    have e := List.cons.inj e
    rw [spS_inj (g f List.mem_cons_self).1 (h k List.mem_cons_self).1 e.1, map_spS_inj (fun x hx => g x (List.mem_cons_of_mem _ hx)) (fun x hx => h x (List.mem_cons_of_mem _ hx)) e.2]
theorem side_uniq {L L' F F' : List Fm} (g : Gd L) (g' : Gd L') (s : Side L F) (s' : Side L' F') : F = F' ↔ SameF L L' := by
  constructor
  · rintro rfl f
    rw [← s.2.1 f, s'.2.1 f]
  · intro h
    have gF := gd_side g s
    have gF' := gd_side g' s'
    refine map_spS_inj gF gF' (sorted_uniq s.2.2 s'.2.2 (map_spS_nodup gF s.1) (map_spS_nodup gF' s'.1) fun y => ?_)
    have : SameF F F' := fun f => by rw [s.2.1 f, s'.2.1 f]; exact h f
    constructor
    · intro hy
      obtain ⟨f, hf, e⟩ := List.mem_map.mp hy
      exact List.mem_map.mpr ⟨f, (this f).1 hf, e⟩
    · intro hy
      obtain ⟨f, hf, e⟩ := List.mem_map.mp hy
      exact List.mem_map.mpr ⟨f, (this f).2 hf, e⟩
/-! ### the codes -/
def jn : List Fm → List Nat → List Nat
  | [], r => r
  | [f], r => sp f ++ r
  | f :: g :: F, r => sp f ++ (59 :: jn (g :: F) r)
theorem tl_semi : TL.tl (";" : Str) = [59] := by decide +kernel
theorem tl_bar : TL.tl ("|" : Str) = [124] := by decide +kernel
theorem jn_tl : ∀ (F : List Fm) (r : List Nat), TL.joinL [59] (F.map sp) ++ r = jn F r
  | [], r => rfl
  | [f], r => rfl
  | f :: g :: F, r => by
    have ih := jn_tl (g :: F) r
    show (sp f ++ ([59] ++ TL.joinL [59] ((g :: F).map sp))) ++ r = sp f ++ (59 :: jn (g :: F) r)
    rw [List.append_assoc, List.append_assoc, ih]
    rfl
theorem clTx_tl (F G : List Fm) : TL.tl (clTx F G) = jn F (124 :: jn G []) := by
  have one : ∀ F : List Fm, TL.tl (sideTx F) = TL.joinL [59] (F.map sp) := fun F => by
    show TL.tl (Txt.join (";" : Str) (F.map spS)) = _
    rw [TL.join_eq, TL.tl_join, tl_semi, List.map_map]
    congr 1
    exact List.map_congr_left fun f _ => spS_tl f
  show TL.tl (((Str.empty ++ sideTx F) ++ ("|" : Str)) ++ sideTx G) = _
  rw [TL.tl_append, TL.tl_append, TL.tl_append, tl_empty, tl_bar, one, one, ← jn_tl F, ← jn_tl G []]
  simp only [List.nil_append, List.append_nil, List.append_assoc, List.cons_append]
theorem sp_head (f : Fm) (h : f.good) : ∃ c r, sp f = c :: r ∧ c ≠ 124 ∧ c ≠ 59 := by
  cases f with
  | sg i =>
    obtain ⟨c, r, h1, h2⟩ := dig_head h
    refine ⟨c, r, h1, fun e => ?_, fun e => ?_⟩
    · subst e; cases h2
    · subst e; cases h2
  | no f =>
    refine ⟨110, [111, 116] ++ (40 :: (sp f ++ [41])), ?_, by decide, by decide⟩
    show TL.tl ("not" : Str) ++ _ = _
    rw [tl_not]
    rfl
  | bi b f g =>
    obtain ⟨c, r, h1, _, _, h4⟩ := head_txt b
    refine ⟨c, r ++ (40 :: (sp f ++ (44 :: (sp g ++ [41])))), ?_, ?_, ?_⟩
    · show TL.tl b.txt ++ _ = _
      rw [h1]
      rfl
    · rw [h4]; cases b <;> decide
    · rw [h4]; cases b <;> decide
/-- what may stand behind a side -/
def End (r : List Nat) : Prop := r = [] ∨ ∃ t, r = 124 :: t
theorem end_nd {r : List Nat} (h : End r) : Nd r := by
  rcases h with rfl | ⟨t, rfl⟩
  · rfl
  · exact nd_cons (by decide) _
theorem jn_inj : ∀ (F G : List Fm) (r t : List Nat), Gd F → Gd G → End r → End t → jn F r = jn G t → F = G ∧ r = t
  | [], [], r, t, _, _, _, _, h => ⟨rfl, h⟩
  | [], g :: G, r, t, _, hG, hr, _, h => by
    exfalso
    obtain ⟨c, x, e, n1, n2⟩ := sp_head g (hG g List.mem_cons_self).1
    have : ∃ y, jn (g :: G) t = c :: y := by
      cases G with
      | nil => exact ⟨x ++ t, by rw [jn, e]; rfl⟩
      | cons k G => exact ⟨x ++ (59 :: jn (k :: G) t), by rw [jn, e]; rfl⟩
    obtain ⟨y, e2⟩ := this
    rw [e2] at h
    have h : r = c :: y := h
    rcases hr with rfl | ⟨u, rfl⟩
    · cases h
    · exact n1 (List.cons.inj h).1.symm
  | f :: F, [], r, t, hF, _, _, ht, h => by
    exfalso
    obtain ⟨c, x, e, n1, n2⟩ := sp_head f (hF f List.mem_cons_self).1
    have : ∃ y, jn (f :: F) r = c :: y := by
      cases F with
      | nil => exact ⟨x ++ r, by rw [jn, e]; rfl⟩
      | cons k F => exact ⟨x ++ (59 :: jn (k :: F) r), by rw [jn, e]; rfl⟩
    obtain ⟨y, e2⟩ := this
    rw [e2] at h
    have h : c :: y = t := h
    rcases ht with rfl | ⟨u, rfl⟩
    · cases h
    · exact n1 (List.cons.inj h).1
  | [f], [g], r, t, hF, hG, hr, ht, h => by
    obtain ⟨e1, e2⟩ := sp_split f g r t (hF f List.mem_cons_self).1 (hG g List.mem_cons_self).1 (end_nd hr) (end_nd ht) h
    exact ⟨by rw [e1], e2⟩
  | [f], g :: k :: G, r, t, hF, hG, hr, ht, h => by
    exfalso
    obtain ⟨e1, e2⟩ := sp_split f g r (59 :: jn (k :: G) t) (hF f List.mem_cons_self).1 (hG g List.mem_cons_self).1 (end_nd hr) (nd_cons (by decide) _) h
    rcases hr with rfl | ⟨u, rfl⟩
    · cases e2
    · exact absurd (List.cons.inj e2).1 (by decide)
  | f :: k :: F, [g], r, t, hF, hG, hr, ht, h => by
    exfalso
    obtain ⟨e1, e2⟩ := sp_split f g (59 :: jn (k :: F) r) t (hF f List.mem_cons_self).1 (hG g List.mem_cons_self).1 (nd_cons (by decide) _) (end_nd ht) h
    rcases ht with rfl | ⟨u, rfl⟩
    · cases e2
    · exact absurd (List.cons.inj e2).1 (by decide)
  | f :: k :: F, g :: l :: G, r, t, hF, hG, hr, ht, h => by
    obtain ⟨e1, e2⟩ := sp_split f g (59 :: jn (k :: F) r) (59 :: jn (l :: G) t) (hF f List.mem_cons_self).1 (hG g List.mem_cons_self).1 (nd_cons (by decide) _) (nd_cons (by decide) _) h
    obtain ⟨q1, q2⟩ := jn_inj (k :: F) (l :: G) r t (fun x hx => hF x (List.mem_cons_of_mem _ hx)) (fun x hx => hG x (List.mem_cons_of_mem _ hx)) hr ht (List.cons.inj e2).2
    exact ⟨by rw [e1, q1], q2⟩
theorem clTx_inj {F G F' G' : List Fm} (hF : Gd F) (hG : Gd G) (hF' : Gd F') (hG' : Gd G') (h : clTx F G = clTx F' G') : F = F' ∧ G = G' := by
  have e : jn F (124 :: jn G []) = jn F' (124 :: jn G' []) := by rw [← clTx_tl, ← clTx_tl, h]
  obtain ⟨e1, e2⟩ := jn_inj F F' _ _ hF hF' (.inr ⟨_, rfl⟩) (.inr ⟨_, rfl⟩) e
  obtain ⟨e3, _⟩ := jn_inj G G' _ _ hG hG' (.inl rfl) (.inl rfl) (List.cons.inj e2).2
  exact ⟨e1, e3⟩
theorem clT_eq {L R L' R' : List Fm} {y y' : Str} (gL : Gd L) (gR : Gd R) (gL' : Gd L') (gR' : Gd R') (h : ClT L R y) (h' : ClT L' R' y') : y = y' ↔ SameF L L' ∧ SameF R R' := by
  obtain ⟨F, G, sF, sG, rfl⟩ := h
  obtain ⟨F', G', sF', sG', rfl⟩ := h'
  rw [← side_uniq gL gL' sF sF', ← side_uniq gR gR' sG sG']
  constructor
  · exact fun e => clTx_inj (gd_side gL sF) (gd_side gR sG) (gd_side gL' sF') (gd_side gR' sG') e
  · rintro ⟨rfl, rfl⟩; rfl
/-! ### their length -/
theorem sp_size : ∀ {f : Fm}, f.good → (sp f).length ≤ 7 * f.size
  | .sg i, h => by
    have q := (digs_of h).2.2.2
    show (digs i).length ≤ 7 * 1
    omega
  | .no f, h => by
    have q := sp_size (f := f) h
    show (TL.tl ("not" : Str) ++ (40 :: (sp f ++ [41]))).length ≤ 7 * (f.size + 1)
    have e : (40 :: (sp f ++ [41])).length = (sp f).length + 2 := by rw [List.length_cons, List.length_append]; rfl
    rw [tl_not, List.length_append, e]
    show 3 + ((sp f).length + 2) ≤ _
    omega
  | .bi b f g, h => by
    have q := sp_size (f := f) h.1
    have q2 := sp_size (f := g) h.2
    have q3 := txt_len b
    show (TL.tl b.txt ++ (40 :: (sp f ++ (44 :: (sp g ++ [41]))))).length ≤ 7 * (f.size + g.size + 1)
    rw [List.length_append, List.length_cons, List.length_append, List.length_cons, List.length_append]
    show (TL.tl b.txt).length + ((sp f).length + ((sp g).length + 1 + 1) + 1) ≤ _
    omega
theorem jn_len : ∀ (F : List Fm) (r : List Nat), Gd F → (jn F r).length ≤ 7 * wordsS F + F.length + r.length
  | [], r, _ => by show r.length ≤ _; omega
  | [f], r, h => by
    have := sp_size (h f List.mem_cons_self).1
    show (sp f ++ r).length ≤ 7 * (f.size + 0) + 1 + r.length
    rw [List.length_append]
    omega
  | f :: g :: F, r, h => by
    have := sp_size (h f List.mem_cons_self).1
    have ih := jn_len (g :: F) r fun x hx => h x (List.mem_cons_of_mem _ hx)
    show (sp f ++ (59 :: jn (g :: F) r)).length ≤ 7 * (f.size + wordsS (g :: F)) + ((g :: F).length + 1) + r.length
    rw [List.length_append, List.length_cons]
    omega
theorem nodup_words : ∀ {F : List Fm} {L : List Fm}, F.Nodup → (∀ f ∈ F, f ∈ L) → wordsS F ≤ wordsS L ∧ F.length ≤ L.length
  | [], L, _, _ => ⟨Nat.zero_le _, Nat.zero_le _⟩
  | f :: F, L, n, h => by
    have n' := List.nodup_cons.mp n
    obtain ⟨A, B, e⟩ := List.append_of_mem (h f List.mem_cons_self)
    have ih := nodup_words (F := F) (L := A ++ B) n'.2 fun x hx => by
      have := h x (List.mem_cons_of_mem _ hx)
      rw [e, List.mem_append, List.mem_cons] at this
      rw [List.mem_append]
      rcases this with z | rfl | z
      · exact .inl z
      · exact absurd hx n'.1
      · exact .inr z
    rw [e]
    have wa : ∀ A B : List Fm, wordsS (A ++ B) = wordsS A + wordsS B := fun A B => by unfold wordsS; rw [List.map_append, List.sum_append]
    rw [wa] at ih
    rw [wa]
    rw [List.length_append] at ih
    rw [List.length_append]
    show f.size + wordsS F ≤ wordsS A + (f.size + wordsS B) ∧ F.length + 1 ≤ A.length + (B.length + 1)
    omega
theorem side_len {L F : List Fm} (g : Gd L) (s : Side L F) : (sideTx F).length ≤ 7 * wordsS L + L.length := by
  have h1 := nodup_words s.1 fun f hf => (s.2.1 f).1 hf
  have h2 := jn_len F [] (gd_side g s)
  rw [← jn_tl, List.append_nil] at h2
  have e : TL.tl (sideTx F) = TL.joinL [59] (F.map sp) := by
    show TL.tl (Txt.join (";" : Str) (F.map spS)) = _
    rw [TL.join_eq, TL.tl_join, tl_semi, List.map_map]
    congr 1
    exact List.map_congr_left fun f _ => spS_tl f
  rw [TL.len_tl, e]
  have : ([] : List Nat).length = 0 := rfl
  omega
theorem sum_len : ∀ (F : List Fm), Gd F → ((F.map spS).map (·.length)).sum ≤ 7 * wordsS F
  | [], _ => Nat.le_refl _
  | f :: F, h => by
    have ih := sum_len F fun x hx => h x (List.mem_cons_of_mem _ hx)
    have := sp_size (h f List.mem_cons_self).1
    show (spS f).length + ((F.map spS).map (·.length)).sum ≤ 7 * (f.size + wordsS F)
    rw [TL.len_tl, spS_tl]
    omega
/-- texts of formulas: of a list of formulas -/
theorem txts_back : ∀ {ys : List Str} {L : List Fm}, (∀ y ∈ ys, y ∈ L.map spS) → ∃ F : List Fm, ys = F.map spS ∧ ∀ f ∈ F, f ∈ L
  | [], L, _ => ⟨[], rfl, fun f h => nomatch h⟩
  | y :: ys, L, h => by
    obtain ⟨f, hf, e⟩ := List.mem_map.mp (h y List.mem_cons_self)
    obtain ⟨F, e2, h2⟩ := txts_back (ys := ys) fun z hz => h z (List.mem_cons_of_mem _ hz)
    refine ⟨f :: F, by rw [List.map_cons, e, e2], fun k hk => ?_⟩
    rcases List.mem_cons.mp hk with rfl | hk
    · exact hf
    · exact h2 k hk
theorem map_nodup_back : ∀ {F : List Fm}, (F.map spS).Nodup → F.Nodup
  | [], _ => List.nodup_nil
  | f :: F, h => by
    rw [List.map_cons, List.nodup_cons] at h
    exact List.nodup_cons.mpr ⟨fun z => h.1 (List.mem_map_of_mem z), map_nodup_back h.2⟩
/-- sorted(the set of the texts of a side) -/
theorem side_of {L : List Fm} {ks ys : List Str} (g : Gd L) (nd : ks.Nodup) (m : ∀ y, y ∈ ks ↔ y ∈ L.map spS) (p : ys.Perm ks) (s : sortedS ys = true) : ∃ F, ys = F.map spS ∧ Side L F := by
  obtain ⟨F, e, h⟩ := txts_back (ys := ys) (L := L) fun y hy => (m y).1 (p.mem_iff.mp hy)
  refine ⟨F, e, map_nodup_back (by rw [← e]; exact p.nodup_iff.mpr nd), fun f => ⟨h f, fun hf => ?_⟩, by rw [← e]; exact s⟩
  have : spS f ∈ ys := p.mem_iff.mpr ((m _).2 (List.mem_map_of_mem hf))
  rw [e] at this
  obtain ⟨k, hk, e2⟩ := List.mem_map.mp this
  rw [← spS_inj (g k (h k hk)).1 (g f hf).1 e2]
  exact hk
end Lm
set_option Elab.async false
set_option linter.all false
set_option maxRecDepth 100000
set_option maxHeartbeats 400000
namespace Lm
open PySem PySem.Spec PyProof.Rows L2
/-! ### the texts of claims -/
def spSideSp (K : PySem.W.Frag) : Sp := fun vs H Q _ => ∃ (a : Addr) (xs : List V) (L : List Fm), vs = [.ref a] ∧ SqL K H a xs ∧ DpAll K H xs (L.map Fm.toD) ∧ Gd L ∧ L.length < 64 ∧ wordsS L ≤ 10000 ∧
  ∀ (F : List Fm) (H' : Hp), Side L F → Same H H' → Q (.str (sideTx F)) H'
def spClaimSp (K : PySem.W.Frag) : Sp := fun vs H Q _ => ∃ (v : V) (L R : List Fm), vs = [v] ∧ Dp K H v (cD L R) ∧ Gd L ∧ Gd R ∧ L.length < 64 ∧ R.length < 64 ∧ wordsS L ≤ 10000 ∧ wordsS R ≤ 10000 ∧
  ∀ (y : Str) (H' : Hp), ClT L R y → Same H H' → Q (.str y) H'
section
variable {P : Program} {w : World} {K : PySem.W.Frag} {mg : Str → Option Value} {base : Heap} {f : Addr} {fd : FuncData}
theorem scSideSp : FnScope ["side", "f"] ["side"] (defScope sSideSp) := ⟨rfl, rfl, rfl, by decide +kernel, rfl, by decide +kernel, by decide +kernel⟩
theorem cs_semi : (";" : Str).length = 1 := by decide +kernel
theorem cs_bar : ("|" : Str).length = 1 := by decide +kernel
theorem bt_sorted : bootBuiltins "sorted" = some (.builtin "sorted") := by first | exact PyProof.Rows.boot_sorted | decide +kernel
theorem ok_sideSp (D : Df K mg "_side_spelled" sSideSp ["side"] f fd) (ms : mg "sorted" = none) (S : Has P w K mg base 14 "spelled" ["f"] (spSpelled K 13)) : FnOk P w K mg base CX0 15 f fd ["side"] (spSideSp K) := by
  refine D.fn.ok scSideSp (fun vs H Q E h => ?_) (fun cdv A outer s H vs Q E hr h => ?_)
  · obtain ⟨a, xs, L, rfl, _⟩ := h
    rfl
  obtain ⟨a, xs, L, rfl, ha, da, gl, n64, nw, q⟩ := h
  refine ⟨_, pss_one (ps_ret (pe_join pe_str (pe_callB (cr_sortedTx rfl) (by rfl) ms bt_sorted (pa_cons (pe_scS (own := [("f", 1)]) (g := gName 1) (tt := tYes) rfl scSideSp.nd (pi_list (pv 0))
      (blkOk_by (N := ["side", "f"]) (sc := defScope sSideSp) (by decide +kernel)) (fun _ _ _ _ _ => pg_name (i := 1) scSideSp.nd rfl (Or.inl rfl)) (fun _ _ _ _ _ => pts_nil) (fun _ _ _ _ _ => pe_callH S hr (by rfl) (pa_cons (pv 1) pa_nil))) pa_nil)))), ?_⟩
  have l1 := dpAll_len da
  rw [List.length_map] at l1
  refine ⟨⟨_, rfl⟩, ?_⟩
  dsimp only [tCB]
  rw [tCons]
  dsimp only [tNil]
  refine sc_txts (K := K) (a := a) (xs := xs) (ys := L.map spS) (j := 1) ha (by rw [List.length_map, l1]) (by rw [List.length_map]; omega) (fun i x y H' hi hy e Q' q' => ?_) (fun D1 ks H1 e1 nD1 hD nd mem kl => ?_) _ (fun R r => ⟨.ref a, rfl, r⟩)
  · obtain ⟨g, hg, hx⟩ := kid_get da hi
    have m := List.mem_of_getElem? hg
    have ey : y = spS g := by
      rw [List.getElem?_map, hg] at hy
      exact (Option.some.inj hy).symm
    rw [ey] at q'
    exact ⟨x, rfl, x, g, rfl, dp_same e _ _ hx, (gl g m).1, (gl g m).2, Nat.lt_succ_of_le (gl g m).2, q'⟩
  rw [List.length_map] at kl
  refine ⟨D1, ks, rfl, hD, by omega, fun ys p hp hs np => ?_⟩
  obtain ⟨F, rfl, sF⟩ := side_of gl nd mem hp hs
  refine ⟨(";" : Str), p, F.map spS, rfl, rfl, .inl (SqL.of upd_same), ?_, q F _ sF (e1.trans (same_new np _))⟩
  have h1 := nodup_words sF.1 fun f hf => (sF.2.1 f).1 hf
  have h2 := sum_len F (gd_side gl sF)
  rw [cs_semi, List.length_map]
  omega
theorem scClaimSp : FnScope ["claim", "left", "right"] ["claim"] (defScope sClaimSp) := ⟨rfl, rfl, rfl, by decide +kernel, rfl, by decide +kernel, by decide +kernel⟩
theorem ok_claimSp (D : Df K mg "claim_spelled" sClaimSp ["claim"] f fd) (S : Has P w K mg base 15 "_side_spelled" ["side"] (spSideSp K)) : FnOk P w K mg base CX0 16 f fd ["claim"] (spClaimSp K) := by
  refine D.fn.ok scClaimSp (fun vs H Q E h => ?_) (fun cdv A outer s H vs Q E hr h => ?_)
  · obtain ⟨v, L, R, rfl, _⟩ := h
    rfl
  obtain ⟨v, L, R, rfl, hd, gL, gR, n1, n2, w1, w2, q⟩ := h
  refine ⟨_, pss_cons (ps_asg (pv 0) (pg_tup rfl (pgs_cons (pg_name (i := 1) scClaimSp.nd rfl (.inl rfl)) (pgs_cons (pg_name (i := 2) scClaimSp.nd rfl (.inl rfl)) pgs_nil))))
    (pss_one (ps_ret (pe_joined (.cons (pe_fmt (pe_callH S hr (by rfl) (pa_cons (pv 1) pa_nil))) (.cons pe_str (.cons (pe_fmt (pe_callH S hr (by rfl) (pa_cons (pv 2) pa_nil))) .nil)))))), ?_⟩
  obtain ⟨a, b, c, xs, zs, rfl, ht, hb, hc, db, dc⟩ := dp_claim hd
  have z16 : ∀ {n : Nat}, n ≤ 1000000 → n ≤ sizeLine := fun h => Nat.le_trans h (by decide)
  refine ⟨.ref a, rfl, a, _, rfl, ht, rfl, .ref b, _, rfl, .ref c, _, rfl, rfl, ?_⟩
  refine ⟨.ref b, rfl, b, xs, L, rfl, hb, db, gL, n1, w1, fun F H1 sF e1 => ?_⟩
  have lF := side_len gL sF
  have l0 : (Str.empty ++ sideTx F).length ≤ 100000 := by rw [str_len, cs_empty]; omega
  have l1 : ((Str.empty ++ sideTx F) ++ ("|" : Str)).length ≤ 100001 := by rw [str_len, cs_bar]; omega
  refine .inl ⟨sideTx F, rfl, z16 (by omega), _, rfl, z16 (by omega), _, rfl, z16 (by omega), ?_⟩
  refine ⟨.ref c, rfl, c, zs, R, rfl, e1.seq hc, dpAll_same e1 _ _ dc, gR, n2, w2, fun G H2 sG e2 => ?_⟩
  have lG := side_len gR sG
  refine .inl ⟨sideTx G, rfl, z16 (by omega), _, rfl, ?_, q _ _ ⟨F, G, sF, sG, rfl⟩ (e1.trans e2)⟩
  rw [str_len]
  exact z16 (by omega)
end
end Lm
set_option Elab.async false
set_option linter.all false
set_option maxRecDepth 100000
set_option maxHeartbeats 400000
namespace Lm
open PySem PySem.Spec PyProof.Rows L2
section
variable {P : Program} {w : World} {K : PySem.W.Frag} {mg : Str → Option Value} {base : Heap} {f : Addr} {fd : FuncData}
theorem scAlike : FnScope ["one", "other"] ["one", "other"] (defScope sAlike) := ⟨rfl, rfl, rfl, by decide +kernel, rfl, by decide +kernel, by decide +kernel⟩
theorem ok_alike {C0 : Addr} (D : Df K mg "alike" sAlike ["one", "other"] f fd) (R : HasN P w K mg base 18 "refuse_no_claim" ["thing"] (spNoClaim K C0)) (S : Has P w K mg base 16 "claim_spelled" ["claim"] (spClaimSp K)) : FnOk P w K mg base (L2N.CX P w) 19 f fd ["one", "other"] (spAlike K C0) := by
  refine fun_okN D.fn scAlike (fun vs H Q E h => ?_) (fun cv A outer s H vs Q E hr h => ?_)
  · obtain ⟨v, u, d, e, rfl, _⟩ := h
    rfl
  obtain ⟨v, u, d, e, rfl, hd, he, s1, s2, q1, q2⟩ := h
  have r16 : Room 16 (A.deeper (envOfC "alike" (defScope sAlike) s.heap.objs.size f cv)) := hr.mono (by decide)
  refine ⟨_, pss_cons (ps_expr (pe_callN (E := E) R (L2N.takes_of rfl rfl rfl rfl) (fun _ _ _ _ h => h) hr (by rfl) (pa_cons (pv 0) pa_nil)))
    (pss_cons (ps_expr (pe_callN (E := E) R (L2N.takes_of rfl rfl rfl rfl) (fun _ _ _ _ h => h) hr (by rfl) (pa_cons (pv 1) pa_nil)))
    (pss_one (ps_ret (pe_cmpR op_eq (pe_callH S r16 (by rfl) (pa_cons (pv 0) pa_nil)) (pe_callH S r16 (by rfl) (pa_cons (pv 1) pa_nil)) (nomark _))))), ?_⟩
  refine ⟨v, rfl, v, d, rfl, hd, s1, fun c1 H1 e1 => ?_, fun c1 => q2 (by rw [c1]; rfl)⟩
  refine ⟨u, rfl, u, e, rfl, dp_same e1 _ _ he, s2, fun c2 H2 e2 => ?_, fun c2 H' e' => q2 (by rw [c2, Bool.and_false]) H' (e1.trans e')⟩
  obtain ⟨L, R, rfl, gL, gR, w1⟩ := isC_back c1
  obtain ⟨L', R', rfl, gL', gR', w2⟩ := isC_back c2
  have e12 := e1.trans e2
  have n1 := words_len L
  have n2 := words_len R
  have n3 := words_len L'
  have n4 := words_len R'
  refine ⟨v, rfl, v, L, R, rfl, dp_same e12 _ _ hd, gL, gR, by omega, by omega, by omega, by omega, fun y H3 t1 e3 => ?_⟩
  refine ⟨u, rfl, u, L', R', rfl, dp_same (e12.trans e3) _ _ he, gL', gR', by omega, by omega, by omega, by omega, fun y' H4 t2 e4 => ?_⟩
  refine ⟨rfl, ?_⟩
  refine q1 c1 c2 L R L' R' rfl rfl gL gR gL' gR' _ H4 ?_ (e12.trans (e3.trans e4))
  rw [decide_eq_true_eq, ← clT_eq gL gR gL' gR' t1 t2]
  exact ⟨fun z => V.str.inj z, fun z => congrArg V.str z⟩
end
end Lm
set_option Elab.async false
set_option linter.all false
set_option maxRecDepth 100000
set_option maxHeartbeats 400000
namespace Lm
open PySem PySem.Spec PyProof.Rows L2
theorem at_ints {zs : List Int} {i : Int} (h0 : 0 ≤ i) (h1 : i < (zs.length : Int)) : ∃ z ∈ zs, atI (zs.map V.int) i = some (.int z) := by
  obtain ⟨j, rfl⟩ := Int.eq_ofNat_of_zero_le h0
  have hj : j < zs.length := by omega
  refine ⟨zs[j], List.getElem_mem hj, atI_nat ?_⟩
  rw [List.getElem?_map, List.getElem?_eq_getElem hj]
  rfl
theorem at_any {zs : List V} {i : Int} (h0 : 0 ≤ i) (h1 : i < (zs.length : Int)) : ∃ z ∈ zs, atI zs i = some z := by
  obtain ⟨j, rfl⟩ := Int.eq_ofNat_of_zero_le h0
  have hj : j < zs.length := by omega
  exact ⟨zs[j], List.getElem_mem hj, atI_nat (List.getElem?_eq_getElem hj)⟩
theorem mod_lo (a : Int) {b : Int} (h : 0 < b) : 0 ≤ a % b := Int.emod_nonneg a (by omega)
theorem mod_hi (a : Int) {b : Int} (h : 0 < b) : a % b < b := Int.emod_lt_of_pos a h
theorem inV_ints (i : Int) : ∀ ns : List Int, inV (.int i) (ns.map V.int) = decide (i ∈ ns)
  | [] => by simp [inV]
  | n :: ns => by
    have ih := inV_ints i ns
    show ((n == i) || inV (.int i) (ns.map V.int)) = _
    rw [ih]
    by_cases e : n = i
    · subst e; simp
    · have e' : ¬ i = n := fun z => e z.symm
      simp [e, e']
theorem flat_ints : ∀ ns : List Int, (ns.map V.int).all flatV = true
  | [] => rfl
  | n :: ns => by
    rw [List.map_cons, List.all_cons, flat_ints ns]
    rfl
theorem rep_ints (m : Nat) (z : Int) : (List.replicate m [V.int z]).flatten = (List.replicate m z).map V.int := by
  induction m with
  | zero => rfl
  | succ m ih => rw [List.replicate_succ, List.flatten_cons, ih, List.replicate_succ, List.map_cons]; rfl
theorem shaped_ints (ns : List Int) : SeqAt.shaped (.list (ns.map PyData.int)) = true := by
  have h1 : ∀ ns : List Int, PyData.canLayAll0 (ns.map PyData.int) = true := by
    intro ns
    induction ns with
    | nil => rfl
    | cons n ns ih => rw [List.map_cons, PyData.canLayAll0, ih]; rfl
  have h2 : ∀ ns : List Int, PyData.depthAll (ns.map PyData.int) = 0 := by
    intro ns
    induction ns with
    | nil => rfl
    | cons n ns ih => rw [List.map_cons, PyData.depthAll, ih]; rfl
  show (PyData.canLayAll0 (ns.map PyData.int) && decide (PyData.depthAll (ns.map PyData.int) + 1 ≤ 64)) = true
  rw [h1, h2]
  decide
theorem eqv_ints (ns : List Int) : PyData.eqv (.list (ns.map PyData.int)) (.list (ns.map PyData.int)) = true := SeqAt.eqv_refl _ (SeqAt.canLay_of_shaped (shaped_ints ns))
theorem dp_ints {K : PySem.W.Frag} {H : Hp} {a : Addr} {ns : List Int} (h : SqL K H a (ns.map V.int)) : Dp K H (.ref a) (.list (ns.map PyData.int)) := .lst h (dpAll_ints ns)
theorem dp_fms {K : PySem.W.Frag} {H : Hp} {a : Addr} {ys : List V} {fs : List Fm} (h : SqL K H a ys) (hy : DpAll K H ys (fs.map Fm.toD)) : Dp K H (.ref a) (.list (fs.map Fm.toD)) := .lst h hy
theorem lit3 (i : Int) : ∃ b : Bw, atI [V.str ("and" : Str), V.str ("or" : Str), V.str ("then" : Str)] (i % 3) = some (.str b.txt) := by
  obtain ⟨z, hz, e⟩ := at_any (zs := [V.str ("and" : Str), V.str ("or" : Str), V.str ("then" : Str)]) (mod_lo i (by decide : (0 : Int) < 3)) (mod_hi i (by decide : (0 : Int) < 3))
  rw [e]
  rcases List.mem_cons.mp hz with rfl | hz
  · exact ⟨.an, rfl⟩
  · rcases List.mem_cons.mp hz with rfl | hz
    · exact ⟨.o, rfl⟩
    · rw [List.mem_singleton.mp hz]
      exact ⟨.th, rfl⟩
theorem sqT_tab {K : PySem.W.Frag} {H H' : Hp} {a : Addr} {xs : List V} (e : LamX.ExtN H H') (h : SqT K H a xs) : SqT K H' a xs := by
  rcases h with (h | ⟨o, h⟩) | h
  · exact .inl (.inl (e _ _ h fun _ z => nomatch z))
  · exact .inl (.inr ⟨o, e _ _ h fun _ z => nomatch z⟩)
  · exact .inr h
theorem sqL_tab {K : PySem.W.Frag} {H H' : Hp} {a : Addr} {xs : List V} (e : LamX.ExtN H H') (h : SqL K H a xs) : SqL K H' a xs := by
  rcases h with (h | ⟨o, h⟩) | h
  · exact .inl (.inl (e _ _ h fun _ z => nomatch z))
  · exact .inl (.inr ⟨o, e _ _ h fun _ z => nomatch z⟩)
  · exact .inr h
mutual
theorem dp_tab {K : PySem.W.Frag} {H H' : Hp} (e : LamX.ExtN H H') : ∀ (d : PyData) (v : V), Dp K H v d → Dp K H' v d
  | .none, _, h => by cases h; exact .non
  | .bool b, _, h => by cases h; exact .bl b
  | .int i, _, h => by cases h; exact .int i
  | .str x, _, h => by cases h; exact .str x
  | .list ds, _, h => by
    cases h with
    | lst hs ha => exact .lst (sqL_tab e hs) (dpAll_tab e ds _ ha)
  | .tuple ds, _, h => by
    cases h with
    | tup hs ha => exact .tup (sqT_tab e hs) (dpAll_tab e ds _ ha)
  | .dict _, _, h => by cases h
theorem dpAll_tab {K : PySem.W.Frag} {H H' : Hp} (e : LamX.ExtN H H') : ∀ (ds : List PyData) (vs : List V), DpAll K H vs ds → DpAll K H' vs ds
  | [], _, h => by cases h; exact .nil
  | d :: ds, _, h => by
    cases h with
    | cons h1 h2 => exact .cons (dp_tab e d _ h1) (dpAll_tab e ds _ h2)
end
/-! ### displayed data -/
/-- te gives the data d and changes nothing that stood, from H on -/
def GvE (K : PySem.W.Frag) (te : TE) (σ : L2.St) (H : Hp) (d : PyData) : Prop := ∀ H', Same H H' → ∀ Q : VK, (∀ v H'', Same H' H'' → Dp K H'' v d → Q v H'') → te σ H' Q
def GvA (K : PySem.W.Frag) (ta : TA) (σ : L2.St) (H : Hp) (ds : List PyData) : Prop := ∀ H', Same H H' → ∀ Q : List V → Hp → Prop, (∀ vs H'', Same H' H'' → DpAll K H'' vs ds → Q vs H'') → ta σ H' Q
section
variable {K : PySem.W.Frag} {σ : L2.St} {H : Hp} {te : TE} {ta : TA} {d : PyData} {ds : List PyData}
theorem gv_nil : GvA K tNil σ H [] := fun H' e Q q => q [] H' (Same.refl _) .nil
theorem gv_cons (h1 : GvE K te σ H d) (h2 : GvA K ta σ H ds) : GvA K (tCons te ta) σ H (d :: ds) := fun H' e Q q =>
  h1 H' e _ fun v H1 e1 hv => h2 H1 (e.trans e1) _ fun vs H2 e2 hvs => q (v :: vs) H2 (e1.trans e2) (.cons (dp_same e2 _ _ hv) hvs)
theorem gv_tup (h : GvA K ta σ H ds) (hl : ds.length ≤ 1000) : GvE K (tTup ta) σ H (.tuple ds) := fun H' e Q q =>
  h H' e _ fun vs H1 e1 hvs => ⟨sl1000 (by rw [dpAll_len hvs]; omega), fun p np => q (.ref p) _ (e1.trans (same_new np _)) (.tup (SqT.of upd_same) (dpAll_same (same_new np _) _ _ hvs))⟩
theorem gv_lst (h : GvA K ta σ H ds) (hl : ds.length ≤ 1000) : GvE K (tLst ta) σ H (.list ds) := fun H' e Q q =>
  h H' e _ fun vs H1 e1 hvs => ⟨sl1000 (by rw [dpAll_len hvs]; omega), fun p np => q (.ref p) _ (e1.trans (same_new np _)) (.lst (SqL.of upd_same) (dpAll_same (same_new np _) _ _ hvs))⟩
theorem gv_str (x : Str) : GvE K (tC (.str x)) σ H (.str x) := fun H' _ Q q => q _ H' (Same.refl _) (.str x)
theorem gv_int (i : Int) : GvE K (tC (.int i)) σ H (.int i) := fun H' _ Q q => q _ H' (Same.refl _) (.int i)
theorem gv_bl (b : Bool) : GvE K (tC (.bl b)) σ H (.bool b) := fun H' _ Q q => q _ H' (Same.refl _) (.bl b)
theorem gv_non : GvE K (tC .non) σ H .none := fun H' _ Q q => q _ H' (Same.refl _) .non
theorem gv_var {i : Nat} {v : V} (h : σ[i]? = some (some v)) (hd : Dp K H v d) : GvE K (tVar i) σ H d := fun H' e Q q => ⟨v, h, q v H' (Same.refl _) (dp_same e _ _ hd)⟩
/-- a number that is reckoned -/
theorem gv_num {i : Int} (h : ∀ (H' : Hp) (Q : VK), Q (.int i) H' → te σ H' Q) : GvE K te σ H (.int i) := fun H' _ Q q => h H' Q (q _ H' (Same.refl _) (.int i))
theorem gv_txt {x : Str} (h : ∀ (H' : Hp) (Q : VK), Q (.str x) H' → te σ H' Q) : GvE K te σ H (.str x) := fun H' _ Q q => h H' Q (q _ H' (Same.refl _) (.str x))
/-- the rest behind it -/
theorem GvE.at (h : GvE K te σ H d) {Q : VK} (q : ∀ v H'', Same H H'' → Dp K H'' v d → Q v H'') : te σ H Q := h H (Same.refl _) Q q
end
theorem gl_at {K : PySem.W.Frag} {σ : L2.St} {H : Hp} {ta : TA} {ds : List PyData} (h : GvA K ta σ H ds) (hl : ds.length ≤ 1000) {Q : VK} (q : ∀ (p : Addr) (vs : List V) (H' : Hp), Same H H' → H' p = some (.lst vs) → DpAll K H' vs ds → vs.length = ds.length → Q (.ref p) H') : tLst ta σ H Q :=
  h H (Same.refl _) _ fun vs H1 e1 hvs => ⟨sl1000 (by rw [dpAll_len hvs]; omega), fun p np => q p vs _ (e1.trans (same_new np _)) upd_same (dpAll_same (same_new np _) _ _ hvs) (dpAll_len hvs)⟩
section
variable (K : PySem.W.Frag)
def spCellA : Sp := fun vs H Q _ => ∃ (a : Addr) (ns : List Int) (k : Int), vs = [.ref a, .int k] ∧ SqL K H a (ns.map V.int) ∧ ns.length ≤ 63 ∧ 0 ≤ k ∧ ∀ z : Int, Q (.int z) H
def spFirst : Sp := fun vs H Q _ => ∃ (a : Addr) (ns : List Int), vs = [.ref a] ∧ SqL K H a (ns.map V.int) ∧ ns.length ≤ 63 ∧ ∀ z : Int, Q (.int z) H
def spCount : Sp := fun vs H Q _ => ∃ b : Int, vs = [.int b] ∧ ∀ (z : Int) (H' : Hp), Same H H' → 4 ≤ z → z ≤ 40 → Q (.int z) H'
def spSign : Sp := fun vs H Q _ => ∃ k b : Int, vs = [.int k, .int b] ∧ ∀ (z : Int) (H' : Hp), Same H H' → 0 ≤ z → z ≤ 99 → Q (.int z) H'
def spWorld : Sp := fun vs H Q _ => ∃ c b : Int, vs = [.int c, .int b] ∧ ∀ (r : Addr) (ns : List Int) (H' : Hp), Same H H' → H' r = some (.lst (ns.map V.int)) → ns.length ≤ 40 → Q (.ref r) H'
def spFormula (n : Nat) : Sp := fun vs H Q _ => ∃ c d b : Int, vs = [.int c, .int d, .int b] ∧ 0 ≤ d ∧ d < (n : Int) ∧ ∀ (v : V) (f : Fm) (H' : Hp), Same H H' → Dp K H' v f.toD → f.good → (f.dep : Int) ≤ d + 1 → Q v H'
def spLTrue (n : Nat) : Sp := fun vs H Q _ => ∃ (v : V) (f : Fm) (a : Addr) (ns : List Int), vs = [v, .ref a] ∧ Dp K H v f.toD ∧ f.dep < n ∧ SqL K H a (ns.map V.int) ∧ Q (.bl (f.tr fun i => decide (i ∈ ns))) H
end
section
variable {P : Program} {w : World} {K : PySem.W.Frag} {mg : Str → Option Value} {base : Heap} {f : Addr} {fd : FuncData}
theorem scCell : FnScope ["_law_script", "_law_k"] ["_law_script", "_law_k"] (defScope sCell) := ⟨rfl, rfl, rfl, by decide +kernel, rfl, by decide +kernel, by decide +kernel⟩
theorem ok_cell (D : Df K mg "_law_cell_at" sCell ["_law_script", "_law_k"] f fd) (B : Blt mg) : FnOk P w K mg base CX0 1 f fd ["_law_script", "_law_k"] (spCellA K) := by
  refine D.fn.ok scCell (fun vs H Q E h => ?_) (fun cdv A outer s H vs Q E hr h => ?_)
  · obtain ⟨a, ns, k, rfl, _⟩ := h
    rfl
  obtain ⟨a, ns, k, rfl, hs, hl, h0, q⟩ := h
  refine ⟨_, pss_cons (ps_if (pt_cmpR op_lt (pv 1) (pe_callB call_len_seq (by rfl) B.len PySem.boot_len (pa_cons (pv 0) pa_nil)) (nomark _)) (pss_one (ps_ret (pe_ix ix_list (pv 0) (pv 1) (fun _ _ => rfl)))) pss_nil)
    (pss_one (ps_ret pe_int)), ?_⟩
  refine ⟨.int k, rfl, .ref a, rfl, a, _, rfl, .inl hs, k, _, rfl, rfl, _, rfl, ?_⟩
  refine ite2 (fun c => ?_) (fun c => q 0)
  have c' : k < (((ns.map V.int).length : Nat) : Int) := of_decide_eq_true c
  rw [List.length_map] at c'
  obtain ⟨z, _, hz⟩ := at_ints h0 c'
  exact ⟨.ref a, rfl, .int k, rfl, a, _, k, _, rfl, rfl, hs, hz, q z⟩
theorem scFirst : FnScope ["_law_script"] ["_law_script"] (defScope sFirst) := ⟨rfl, rfl, rfl, by decide +kernel, rfl, by decide +kernel, by decide +kernel⟩
theorem ok_first (D : Df K mg "_law_first" sFirst ["_law_script"] f fd) (C : Has P w K mg base 1 "_law_cell_at" ["_law_script", "_law_k"] (spCellA K)) : FnOk P w K mg base CX0 2 f fd ["_law_script"] (spFirst K) := by
  refine D.fn.ok scFirst (fun vs H Q E h => ?_) (fun cdv A outer s H vs Q E hr h => ?_)
  · obtain ⟨a, ns, rfl, _⟩ := h
    rfl
  obtain ⟨a, ns, rfl, hs, hl, q⟩ := h
  refine ⟨_, pss_one (ps_ret (pe_op op_mod (pe_op op_mul (pe_callH C hr (by rfl) (pa_cons (pv 0) (pa_cons pe_int pa_nil))) pe_int) pe_int)), ?_⟩
  exact ⟨.ref a, rfl, a, ns, 0, rfl, hs, hl, Int.le_refl 0, fun z => ⟨z, 48271, rfl, rfl, .inr ⟨by decide, by decide⟩, _, 1000003, rfl, rfl, (by show (0 : Int) < 1000003; decide), q _⟩⟩
theorem scCount : FnScope ["_law_base"] ["_law_base"] (defScope sCount) := ⟨rfl, rfl, rfl, by decide +kernel, rfl, by decide +kernel, by decide +kernel⟩
theorem ok_count (D : Df K mg "_law_count" sCount ["_law_base"] f fd) : FnOk P w K mg base CX0 1 f fd ["_law_base"] spCount := by
  refine D.fn.ok scCount (fun vs H Q E h => ?_) (fun cdv A outer s H vs Q E hr h => ?_)
  · obtain ⟨b, rfl, _⟩ := h
    rfl
  obtain ⟨b, rfl, q⟩ := h
  refine ⟨_, pss_one (ps_ret (pe_ix ix_list (pe_lst (pa_cons pe_int (pa_cons pe_int (pa_cons pe_int (pa_cons pe_int (pa_cons pe_int (pa_cons pe_int pa_nil))))))) (pe_op op_mod (pe_op op_fdiv (pv 0) pe_int) pe_int) (fun _ _ => rfl))), ?_⟩
  refine ⟨(by show 6 ≤ sizeLine; exact sl1000 (by decide)), fun p np => ?_⟩
  refine ⟨.int b, rfl, b, 100, rfl, rfl, ⟨by decide, by decide⟩, b / 100, 6, rfl, rfl, (by show (0 : Int) < 6; decide), ?_⟩
  obtain ⟨z, hz, e⟩ := at_ints (zs := [4, 4, 40, 4, 5, 40]) (mod_lo (b / 100) (by decide : (0 : Int) < 6)) (mod_hi (b / 100) (by decide : (0 : Int) < 6))
  have zb : ∀ z ∈ ([4, 4, 40, 4, 5, 40] : List Int), 4 ≤ z ∧ z ≤ 40 := by decide
  exact ⟨p, _, _, _, rfl, rfl, SqL.of upd_same, e, q z _ (same_new np _) (zb z hz).1 (zb z hz).2⟩
theorem scSign : FnScope ["_law_k", "_law_base"] ["_law_k", "_law_base"] (defScope sSign) := ⟨rfl, rfl, rfl, by decide +kernel, rfl, by decide +kernel, by decide +kernel⟩
theorem ok_sign (D : Df K mg "_law_sign" sSign ["_law_k", "_law_base"] f fd) (C : Has P w K mg base 1 "_law_count" ["_law_base"] spCount) : FnOk P w K mg base CX0 2 f fd ["_law_k", "_law_base"] spSign := by
  refine D.fn.ok scSign (fun vs H Q E h => ?_) (fun cdv A outer s H vs Q E hr h => ?_)
  · obtain ⟨k, b, rfl, _⟩ := h
    rfl
  obtain ⟨k, b, rfl, q⟩ := h
  refine ⟨_, pss_one (ps_ret (pe_op op_mod (pe_op op_add (pv 1) (pe_op op_mul (pe_ix ix_list (pe_lst (pa_cons pe_int (pa_cons pe_int (pa_cons pe_int (pa_cons pe_int (pa_cons pe_int (pa_cons pe_int pa_nil))))))) (pe_op op_mod (pe_op op_fdiv (pv 1) pe_int) pe_int) (fun _ _ => rfl))
    (pe_op op_mod (pv 0) (pe_callH C hr (by rfl) (pa_cons (pv 1) pa_nil))))) pe_int)), ?_⟩
  refine ⟨.int b, rfl, (by show 6 ≤ sizeLine; exact sl1000 (by decide)), fun p np => ?_⟩
  refine ⟨.int b, rfl, b, 100, rfl, rfl, ⟨by decide, by decide⟩, b / 100, 6, rfl, rfl, (by show (0 : Int) < 6; decide), ?_⟩
  obtain ⟨z, hz, e⟩ := at_ints (zs := [37, 10, 37, 1, 20, 37]) (mod_lo (b / 100) (by decide : (0 : Int) < 6)) (mod_hi (b / 100) (by decide : (0 : Int) < 6))
  have zz : ∀ z ∈ ([37, 10, 37, 1, 20, 37] : List Int), -(2 ^ 64) < z ∧ z < 2 ^ 64 := by decide
  have zb := zz z hz
  refine ⟨p, _, _, _, rfl, rfl, SqL.of upd_same, e, .int k, rfl, .int b, rfl, b, rfl, fun c H' e1 c1 c2 => ?_⟩
  refine ⟨k, c, rfl, rfl, by show 0 < c; omega, z, _, rfl, rfl, .inl zb, b, _, rfl, rfl, _, 100, rfl, rfl, (by show (0 : Int) < 100; decide), ?_⟩
  exact q _ H' ((same_new np _).trans e1) (mod_lo _ (by decide)) (by have := mod_hi (b + z * (k % c)) (by decide : (0 : Int) < 100); omega)
theorem scWorld : FnScope ["_law_cell", "_law_base", "_law_k"] ["_law_cell", "_law_base"] (defScope sWorld) := ⟨rfl, rfl, rfl, by decide +kernel, rfl, by decide +kernel, by decide +kernel⟩
theorem ok_world (D : Df K mg "_law_world" sWorld ["_law_cell", "_law_base"] f fd) (mr : mg "range" = none) (C : Has P w K mg base 1 "_law_count" ["_law_base"] spCount) (S : Has P w K mg base 2 "_law_sign" ["_law_k", "_law_base"] spSign) : FnOk P w K mg base CX0 3 f fd ["_law_cell", "_law_base"] spWorld := by
  refine D.fn.ok scWorld (fun vs H Q E h => ?_) (fun cdv A outer s H vs Q E hr h => ?_)
  · obtain ⟨c, b, rfl, _⟩ := h
    rfl
  obtain ⟨c, b, rfl, q⟩ := h
  refine ⟨_, pss_one (ps_ret (pe_lc (own := [("_law_k", 2)]) (g := gName 2) rfl scWorld.nd (pi_range1 rfl mr (pa_cons (pe_callH C (hr.mono (by decide)) (by rfl) (pa_cons (pv 1) pa_nil)) pa_nil))
    (blkOk_by (N := ["_law_cell", "_law_base", "_law_k"]) (sc := defScope sWorld) (by decide +kernel)) (fun _ _ _ _ _ => pg_name (i := 2) scWorld.nd rfl (Or.inl rfl))
    (fun _ _ _ _ _ => pts_one (pt_cmpR op_eq (pe_op op_mod (pe_op op_fdiv (pe_op op_mod (pe_op op_mul (pe_op op_add (pv 0) (pe_op op_mul (pe_op op_mul pe_int (pv 2)) (pv 2))) pe_int) pe_int) pe_int) pe_int) pe_int (nomark _)))
    (fun _ _ _ _ _ => pe_callH S hr (by rfl) (pa_cons (pv 2) (pa_cons (pv 1) pa_nil))))), ?_⟩
  refine ⟨.int b, rfl, b, rfl, fun m H1 e1 m1 m2 => ⟨m, rfl, by omega, by omega, fun L nL => ?_⟩⟩
  refine lc_range (lo := 0) (n := m.toNat) (fun i H' => Same H1 H' ∧ ∃ ns : List Int, H' L = some (.lst (ns.map V.int)) ∧ ns.length ≤ i ∧ i ≤ 40) ⟨same_new nL _, [], upd_same, Nat.le_refl _, by decide⟩ (fun i H' hi p => ?_) (fun H' p => ?_)
  · obtain ⟨e2, ns, h2, l2, i2⟩ := p
    refine ⟨wipe1 _ _ _, ?_⟩
    refine ⟨.int c, rfl, .int (0 + i), rfl, 7919, (0 + (i : Int)), rfl, rfl, .inl ⟨by decide, by decide⟩, .int (0 + i), rfl, _, (0 + (i : Int)), rfl, rfl, .inr ⟨by omega, by omega⟩, c, _, rfl, rfl, _, 48271, rfl, rfl, .inr ⟨by decide, by decide⟩, _, 65537, rfl, rfl, (by show (0 : Int) < 65537; decide), _, 7, rfl, rfl, ⟨by decide, by decide⟩, _, 2, rfl, rfl, (by show (0 : Int) < 2; decide), rfl, _, rfl, ?_⟩
    refine ite2 (fun _ => ?_) (fun _ => ⟨e2, ns, h2, by omega, by omega⟩)
    refine ⟨.int (0 + i), rfl, .int b, rfl, _, b, rfl, fun z H'' e3 z0 z1 => ?_⟩
    refine ⟨_, e3 _ _ h2, by rw [List.length_map]; exact sl1001 (by omega), same_upd (e2.trans e3) nL, ns ++ [z], ?_, by rw [List.length_append, List.length_singleton]; omega, by omega⟩
    rw [upd_same, List.map_append]
    rfl
  · obtain ⟨e2, ns, h2, l2, i2⟩ := p
    exact q L ns H' (e1.trans e2) h2 (by omega)
theorem scFormula : FnScope ["_law_cell", "_law_deep", "_law_base", "_law_more", "_law_one", "_law_other_here"] ["_law_cell", "_law_deep", "_law_base"] (defScope sFormula) := ⟨rfl, rfl, rfl, by decide +kernel, rfl, by decide +kernel, by decide +kernel⟩
theorem ok_formula {n : Nat} (D : Df K mg "_law_formula" sFormula ["_law_cell", "_law_deep", "_law_base"] f fd) (S : Has P w K mg base 2 "_law_sign" ["_law_k", "_law_base"] spSign) (G : Has P w K mg base (n + 2) "_law_formula" ["_law_cell", "_law_deep", "_law_base"] (spFormula K n)) :
    FnOk P w K mg base CX0 (n + 3) f fd ["_law_cell", "_law_deep", "_law_base"] (spFormula K (n + 1)) := by
  refine D.fn.ok scFormula (fun vs H Q E h => ?_) (fun cdv A outer s H vs Q E hr h => ?_)
  · obtain ⟨c, d, b, rfl, _⟩ := h
    rfl
  obtain ⟨c, d, b, rfl, d0, dn, q⟩ := h
  have hr2 : Room 2 (A.deeper (envOfC "_law_formula" (defScope sFormula) s.heap.objs.size f cdv)) := hr.mono (by omega)
  refine ⟨_, pss_cons (ps_set (i := 3) scFormula.nd rfl (.inl rfl) (pe_op op_fdiv (pv 0) pe_int))
    (pss_cons (ps_if (PW.pt (pw_or (pt_cmpR op_lt (pv 1) pe_int (nomark _)) (pw_or1 (pt_cmpR op_lt (pe_op op_mod (pv 0) pe_int) pe_int (nomark _))))) (pss_one (ps_ret (pe_tup (pa_cons pe_str (pa_cons (pe_callH S hr2 (by rfl) (pa_cons (pv 3) (pa_cons (pv 2) pa_nil))) pa_nil))))) pss_nil)
    (pss_cons (ps_set (i := 4) scFormula.nd rfl (.inl rfl) (pe_callH G hr (by rfl) (pa_cons (pe_op op_mod (pe_op op_mul (pv 3) pe_int) pe_int) (pa_cons (pe_op op_sub (pv 1) pe_int) (pa_cons (pv 2) pa_nil)))))
    (pss_cons (ps_if (pt_cmpR op_eq (pe_op op_mod (pv 0) pe_int) pe_int (nomark _)) (pss_one (ps_ret (pe_tup (pa_cons pe_str (pa_cons (pv 4) pa_nil))))) pss_nil)
    (pss_cons (ps_set (i := 5) scFormula.nd rfl (.inl rfl) (pe_callH G hr (by rfl) (pa_cons (pe_op op_mod (pe_op op_mul (pv 3) pe_int) pe_int) (pa_cons (pe_op op_sub (pv 1) pe_int) (pa_cons (pv 2) pa_nil)))))
    (pss_one (ps_ret (pe_tup (pa_cons (pe_ix ix_list (pe_lst (pa_cons pe_str (pa_cons pe_str (pa_cons pe_str pa_nil)))) (pe_op op_mod (pv 0) pe_int) (fun _ _ => rfl)) (pa_cons (pv 4) (pa_cons (pv 5) pa_nil)))))))))), ?_⟩
  refine ⟨.int c, rfl, c, 8, rfl, rfl, ⟨by decide, by decide⟩, ?_⟩
  -- a sign
  have sgn : (tRet (tTup (tCons (tC (.str ("sign" : Str))) (tCons (tCall spSign [] E0 (tCons (tVar 3) (tCons (tVar 2) tNil))) tNil)))) { nx := fun _ H' => Q .non H', rt := Q } [some (.int c), some (.int d), some (.int b), some (.int (c / 8)), none, none] H := by
    refine ⟨.int (c / 8), rfl, .int b, rfl, c / 8, b, rfl, fun z H1 e1 z0 z1 => ⟨(by show 2 ≤ sizeLine; exact sl1000 (by decide)), fun p np => ?_⟩⟩
    exact q (.ref p) (.sg z) _ (e1.trans (same_new np _)) (mk_sg (SqT.of upd_same)) ⟨z0, z1⟩ (by show ((1 : Nat) : Int) ≤ d + 1; omega)
  refine ⟨.int d, rfl, d, 1, rfl, rfl, _, rfl, ?_⟩
  refine ite2 (fun _ => sgn) (fun c1 => ?_)
  have d1 : 1 ≤ d := by
    by_cases z : d < 1
    · exact absurd (decide_eq_true z) c1
    · omega
  refine ⟨.int c, rfl, c, 8, rfl, rfl, (by show (0 : Int) < 8; decide), _, 3, rfl, rfl, _, rfl, ?_⟩
  refine ite2 (fun _ => sgn) (fun c2 => ?_)
  refine ⟨.int (c / 8), rfl, c / 8, 48271, rfl, rfl, .inr ⟨by decide, by decide⟩, _, 65537, rfl, rfl, (by show (0 : Int) < 65537; decide), .int d, rfl, d, 1, rfl, rfl, .int b, rfl, _, d - 1, b, rfl, by omega, by omega, fun v1 f1 H1 e1 h1 g1 l1 => ?_⟩
  refine ⟨.int c, rfl, c, 8, rfl, rfl, (by show (0 : Int) < 8; decide), rfl, _, rfl, ?_⟩
  refine ite2 (fun _ => ?_) (fun c3 => ?_)
  · refine ⟨v1, rfl, (by show 2 ≤ sizeLine; exact sl1000 (by decide)), fun p np => ?_⟩
    refine q (.ref p) (.no f1) _ (e1.trans (same_new np _)) (mk_no (SqT.of upd_same) (dp_same (same_new np _) _ _ h1)) g1 ?_
    show ((f1.dep + 1 : Nat) : Int) ≤ d + 1
    omega
  refine ⟨.int (c / 8), rfl, c / 8, 16807, rfl, rfl, .inr ⟨by decide, by decide⟩, _, 65539, rfl, rfl, (by show (0 : Int) < 65539; decide), .int d, rfl, d, 1, rfl, rfl, .int b, rfl, _, d - 1, b, rfl, by omega, by omega, fun v2 f2 H2 e2 h2 g2 l2 => ?_⟩
  refine ⟨(by show 3 ≤ sizeLine; exact sl1000 (by decide)), fun l nl => ?_⟩
  obtain ⟨bw, hb⟩ := lit3 c
  refine ⟨.int c, rfl, c, 3, rfl, rfl, (by show (0 : Int) < 3; decide), l, _, _, _, rfl, rfl, SqL.of upd_same, hb, v1, rfl, v2, rfl, (by show 3 ≤ sizeLine; exact sl1000 (by decide)), fun p np => ?_⟩
  have s1 := (same_new nl (HO.lst [V.str ("and" : Str), V.str ("or" : Str), V.str ("then" : Str)])).trans (same_new np (HO.tup [V.str bw.txt, v1, v2]))
  refine q (.ref p) (.bi bw f1 f2) _ (e1.trans (e2.trans s1)) (mk_bi (SqT.of upd_same) (dp_same (e2.trans s1) _ _ h1) (dp_same s1 _ _ h2)) ⟨g1, g2⟩ ?_
  show ((max f1.dep f2.dep + 1 : Nat) : Int) ≤ d + 1
  omega
theorem all_formula (D : Df K mg "_law_formula" sFormula ["_law_cell", "_law_deep", "_law_base"] f fd) (S : Has P w K mg base 2 "_law_sign" ["_law_k", "_law_base"] spSign) : ∀ n : Nat, Has P w K mg base (n + 2) "_law_formula" ["_law_cell", "_law_deep", "_law_base"] (spFormula K n)
  | 0 => by
    have no : ∀ vs H Q E, ¬ spFormula K 0 vs H Q E := fun vs H Q E h => by
      obtain ⟨c, d, b, _, h1, h2, _⟩ := h
      omega
    exact D.has ⟨fun vs H Q E h => absurd h (no vs H Q E), fun A outer s H args us vs Q E _ _ _ _ h => absurd h (no vs H Q E)⟩
  | n + 1 => D.has (ok_formula D S (all_formula D S n))
/-! ### _law_chain -/
theorem scLTrue : FnScope ["_law_f", "_law_world_here"] ["_law_f", "_law_world_here"] (defScope sLTrue) := ⟨rfl, rfl, rfl, by decide +kernel, rfl, by decide +kernel, by decide +kernel⟩
theorem ok_ltrue {n : Nat} (D : Df K mg "_law_true" sLTrue ["_law_f", "_law_world_here"] f fd) (G : Has P w K mg base n "_law_true" ["_law_f", "_law_world_here"] (spLTrue K n)) : FnOk P w K mg base CX0 (n + 1) f fd ["_law_f", "_law_world_here"] (spLTrue K (n + 1)) := by
  refine D.fn.ok scLTrue (fun vs H Q E h => ?_) (fun cdv A outer s H vs Q E hr h => ?_)
  · obtain ⟨v, g, a, ns, rfl, _⟩ := h
    rfl
  obtain ⟨v, g, aw, ns, rfl, hd, hn, hw, q⟩ := h
  refine ⟨_, pss_cons (ps_if (pt_cmpR op_eq (pe_ix ix_tup (pv 0) pe_int (fun _ _ => rfl)) pe_str (nomark _)) (pss_one (ps_ret (pe_cmpR op_in_seq (pe_ix ix_tup (pv 0) pe_int (fun _ _ => rfl)) (pv 1) (by rfl)))) pss_nil)
    (pss_cons (ps_if (pt_cmpR op_eq (pe_ix ix_tup (pv 0) pe_int (fun _ _ => rfl)) pe_str (nomark _)) (pss_one (ps_ret (pe_not (pe_callH G hr (by rfl) (pa_cons (pe_ix ix_tup (pv 0) pe_int (fun _ _ => rfl)) (pa_cons (pv 1) pa_nil)))))) pss_nil)
    (pss_cons (ps_if (pt_cmpR op_eq (pe_ix ix_tup (pv 0) pe_int (fun _ _ => rfl)) pe_str (nomark _)) (pss_one (ps_ret (pe_and (pe_callH G hr (by rfl) (pa_cons (pe_ix ix_tup (pv 0) pe_int (fun _ _ => rfl)) (pa_cons (pv 1) pa_nil))) (pe_one (pe_callH G hr (by rfl) (pa_cons (pe_ix ix_tup (pv 0) pe_int (fun _ _ => rfl)) (pa_cons (pv 1) pa_nil))))))) pss_nil)
    (pss_cons (ps_if (pt_cmpR op_eq (pe_ix ix_tup (pv 0) pe_int (fun _ _ => rfl)) pe_str (nomark _)) (pss_one (ps_ret (pe_or (pe_callH G hr (by rfl) (pa_cons (pe_ix ix_tup (pv 0) pe_int (fun _ _ => rfl)) (pa_cons (pv 1) pa_nil))) (pe_one (pe_callH G hr (by rfl) (pa_cons (pe_ix ix_tup (pv 0) pe_int (fun _ _ => rfl)) (pa_cons (pv 1) pa_nil))))))) pss_nil)
    (pss_one (ps_ret (pe_or (pe_not (pe_callH G hr (by rfl) (pa_cons (pe_ix ix_tup (pv 0) pe_int (fun _ _ => rfl)) (pa_cons (pv 1) pa_nil)))) (pe_one (pe_callH G hr (by rfl) (pa_cons (pe_ix ix_tup (pv 0) pe_int (fun _ _ => rfl)) (pa_cons (pv 1) pa_nil)))))))))), ?_⟩
  cases g with
  | sg i =>
    obtain ⟨a, rfl, hs⟩ := dp_sg hd
    refine ⟨.ref a, rfl, a, _, 0, _, rfl, rfl, hs, at0 _ _, rfl, _, rfl, ?_⟩
    refine ite2 (fun c => ?_) (fun c => absurd (decide_eq_true rfl) c)
    refine ⟨.ref a, rfl, a, _, 1, _, rfl, rfl, hs, at1 _ _ _, .ref aw, rfl, aw, _, rfl, .inl hw, rfl, flat_ints ns, ?_⟩
    have q' : Q (.bl (decide (i ∈ ns))) H := q
    rw [← inV_ints] at q'
    exact q'
  | no k =>
    obtain ⟨a, x, rfl, hs, hx⟩ := dp_no hd
    refine ⟨.ref a, rfl, a, _, 0, _, rfl, rfl, hs, at0 _ _, rfl, _, rfl, ?_⟩
    refine ite2 (fun c => absurd (V.str.inj (of_decide_eq_true c)) (by decide +kernel)) (fun _ => ?_)
    refine ⟨.ref a, rfl, a, _, 0, _, rfl, rfl, hs, at0 _ _, rfl, _, rfl, ?_⟩
    refine ite2 (fun c => ?_) (fun c => absurd (decide_eq_true rfl) c)
    have hn' : k.dep + 1 < n + 1 := hn
    exact ⟨.ref a, rfl, a, _, 1, _, rfl, rfl, hs, at1 _ _ _, .ref aw, rfl, x, k, aw, ns, rfl, hx, by omega, hw, _, rfl, q⟩
  | bi b k l =>
    obtain ⟨a, x, y, rfl, hs, hx, hy⟩ := dp_bi hd
    have hn' : max k.dep l.dep + 1 < n + 1 := hn
    have qq : ∀ (c : Bool), (Fm.bi b k l).tr (fun i => decide (i ∈ ns)) = c → Q (.bl c) H := fun c h => h ▸ q
    have at2 : atI [V.str b.txt, x, y] 2 = some y := atI_nat (j := 2) rfl
    refine ⟨.ref a, rfl, a, _, 0, _, rfl, rfl, hs, at0 _ _, rfl, _, rfl, ?_⟩
    refine ite2 (fun c => absurd (V.str.inj (of_decide_eq_true c)) (txt_sign b)) (fun _ => ?_)
    refine ⟨.ref a, rfl, a, _, 0, _, rfl, rfl, hs, at0 _ _, rfl, _, rfl, ?_⟩
    refine ite2 (fun c => absurd (V.str.inj (of_decide_eq_true c)) (txt_not b)) (fun _ => ?_)
    refine ⟨.ref a, rfl, a, _, 0, _, rfl, rfl, hs, at0 _ _, rfl, _, rfl, ?_⟩
    cases b with
    | an =>
      refine ite2 (fun _ => ?_) (fun c => absurd (decide_eq_true rfl) c)
      refine ⟨.ref a, rfl, a, _, 1, _, rfl, rfl, hs, at1 _ _ _, .ref aw, rfl, x, k, aw, ns, rfl, hx, by omega, hw, _, rfl, ?_⟩
      refine ite2 (fun c => ?_) (fun c => ?_)
      · refine ⟨.ref a, rfl, a, _, 2, _, rfl, rfl, hs, at2, .ref aw, rfl, y, l, aw, ns, rfl, hy, by omega, hw, ?_⟩
        refine qq _ ?_
        show (k.tr _ && l.tr _) = _
        rw [c, Bool.true_and]
      · refine qq _ ?_
        show (k.tr _ && l.tr _) = _
        rw [Bool.eq_false_iff.mpr c, Bool.false_and]
    | o =>
      refine ite2 (fun c => absurd (V.str.inj (of_decide_eq_true c)) (by decide +kernel)) (fun _ => ?_)
      refine ⟨.ref a, rfl, a, _, 0, _, rfl, rfl, hs, at0 _ _, rfl, _, rfl, ?_⟩
      refine ite2 (fun _ => ?_) (fun c => absurd (decide_eq_true rfl) c)
      refine ⟨.ref a, rfl, a, _, 1, _, rfl, rfl, hs, at1 _ _ _, .ref aw, rfl, x, k, aw, ns, rfl, hx, by omega, hw, _, rfl, ?_⟩
      refine ite2 (fun c => ?_) (fun c => ?_)
      · refine qq _ ?_
        show (k.tr _ || l.tr _) = _
        rw [c, Bool.true_or]
      · refine ⟨.ref a, rfl, a, _, 2, _, rfl, rfl, hs, at2, .ref aw, rfl, y, l, aw, ns, rfl, hy, by omega, hw, ?_⟩
        refine qq _ ?_
        show (k.tr _ || l.tr _) = _
        rw [Bool.eq_false_iff.mpr c, Bool.false_or]
    | th =>
      refine ite2 (fun c => absurd (V.str.inj (of_decide_eq_true c)) (by decide +kernel)) (fun _ => ?_)
      refine ⟨.ref a, rfl, a, _, 0, _, rfl, rfl, hs, at0 _ _, rfl, _, rfl, ?_⟩
      refine ite2 (fun c => absurd (V.str.inj (of_decide_eq_true c)) (by decide +kernel)) (fun _ => ?_)
      refine ⟨.ref a, rfl, a, _, 1, _, rfl, rfl, hs, at1 _ _ _, .ref aw, rfl, x, k, aw, ns, rfl, hx, by omega, hw, _, rfl, _, rfl, ?_⟩
      refine ite2 (fun c => ?_) (fun c => ?_)
      · refine qq _ ?_
        show (!(k.tr _) || l.tr _) = _
        rw [c, Bool.true_or]
      · refine ⟨.ref a, rfl, a, _, 2, _, rfl, rfl, hs, at2, .ref aw, rfl, y, l, aw, ns, rfl, hy, by omega, hw, ?_⟩
        refine qq _ ?_
        show (!(k.tr _) || l.tr _) = _
        rw [Bool.eq_false_iff.mpr c, Bool.false_or]
theorem all_ltrue (D : Df K mg "_law_true" sLTrue ["_law_f", "_law_world_here"] f fd) : ∀ n : Nat, Has P w K mg base n "_law_true" ["_law_f", "_law_world_here"] (spLTrue K n)
  | 0 => by
    have no : ∀ vs H Q E, ¬ spLTrue K 0 vs H Q E := fun vs H Q E h => by
      obtain ⟨v, g, a, ns, _, _, h2, _⟩ := h
      omega
    exact D.has ⟨fun vs H Q E h => absurd h (no vs H Q E), fun A outer s H args us vs Q E _ _ _ _ h => absurd h (no vs H Q E)⟩
  | n + 1 => D.has (ok_ltrue D (all_ltrue D n))
end
end Lm
set_option Elab.async false
set_option linter.all false
set_option maxRecDepth 100000
set_option maxHeartbeats 1000000
/-! list(reversed(l)), l a list -/
namespace Lm
open PySem PySem.Spec PyProof.Rows L2
section
variable {prog : Program} {w : World} {A : Around} {E : Value → Shared → Prop} {s : Shared}
/-- the empty list at S takes all that the reverse iterator at r gives -/
theorem rev_fill {S r l : Addr} {its : Array Value} {c0 : Nat} {R : Result → Shared → Prop} (hh : A.handled = none) (hr : s.heap.IsRevIter r l ((its.size : Int) - 1)) (hl : s.heap.IsList l its) (lr : l ≠ r) (Sr : S ≠ r) (Sl : S ≠ l) (hz : its.size ≤ sizeLine) (hS : s.heap.get? S = some { cls := .type "list", data := .seq #[] c0 })
    (q : ∀ (h' : Heap) (tk : Nat) (acc : Array Value) (c' : Nat), (∀ b o, b ≠ S → b ≠ r → s.heap.get? b = some o → h'.get? b = some o) → h'.get? S = some { cls := .type "list", dict := none, data := .seq acc c', slots := #[] } → ItemsOf (fun i v => its[its.size - 1 - i]? = some v) acc its.size → R (.ok (.ret .none)) { s with heap := h', toks := tk }) :
    wpAny (model prog w) A.in1 (Builtin.List.listExtendWith (.ref S) (.ref r) .none)
      (fun fin s' => match fin with | .done f => R (.ok f) s' | .again c' => c'.quiet = true ∧ codeAny (model prog w) A c' R s') (fun e s' => R (.error e) s') s := by
  have W := (Walks.listRev (prog := prog) (w := w) (A := A.in1) hh r l lr its).toS
  have out : S ∉ [r, l] := fun z => by
    rcases List.mem_cons.mp z with e | z
    · exact Sr e
    · exact Sl (List.mem_singleton.mp z)
  have ty := hr.typeIs
  have other : Builtin.List.listSameRef (.ref S) (.ref r) = false := by simp [Builtin.List.listSameRef, Sr]
  unfold Builtin.List.listExtendWith
  refine wpAny_bind (wpAny_typeOf ty ?_)
  rw [if_neg (by rw [other]; decide)]
  refine wpAny_bind (wpAny_pyIter_revIter hr ?_)
  refine wpAny_bind (wpAny_holding ?_)
  unfold Builtin.List.listLengthHint
  refine wpAny_bind (wpAny_specialOf ty RT.nolen_lri ?_)
  show wpAny _ A.in1 (specialOf (Value.ref r) (Str.ofString "__length_hint__") >>= _) _ _ _
  refine wpAny_bind (wpAny_specialOf ty RT.hint_lri ?_)
  generalize nm : ("list_reverseiterator.__length_hint__" : String) = hint
  wp_delta
  rw [show splitId hint = some ("list_reverseiterator", "__length_hint__") from by subst nm; decide +kernel]
  subst nm
  refine wpAny_bind (wpAny_isInstance (b := true) ty (by rw [isSubtype_type]; kernel_rfl) ?_)
  refine wpAny_pure ?_
  rw [if_neg (by decide)]
  have e0 : ((its.size : Nat) : Int) - 1 - ((0 : Nat) : Int) = (its.size : Int) - 1 := by omega
  refine wpAny_pure ⟨plainId_quiet PySem.F.plain_extend_loop _, codeAny_extend_loopS W hz S out .none its.size 0 _ _ _ rfl (Nat.zero_le _) ⟨Nat.zero_le _, by rw [e0]; exact hr, hl⟩ hS (ItemsOf.nil _) fun s' acc c' mv atS got => ?_⟩
  rw [Moved.eq_with mv]
  refine q s'.heap s'.toks acc c' (fun b o nS nr e => mv.heap b o (fun z => ?_) e) atS got
  rcases List.mem_cons.mp z with e1 | z
  · exact nS e1
  · exact nr (List.mem_singleton.mp z)
theorem rev_list {r l : Addr} {its : Array Value} {Q : Value → Shared → Prop} (hh : A.handled = none) (hr : s.heap.IsRevIter r l ((its.size : Int) - 1)) (hl : s.heap.IsList l its) (lr : l ≠ r) (hz : its.size ≤ sizeLine)
    (q : ∀ (h' : Heap) (tk : Nat) (acc : Array Value) (c' : Nat), (∀ b o, b ≠ r → s.heap.get? b = some o → h'.get? b = some o) → h'.get? s.heap.objs.size = some { cls := .type "list", dict := none, data := .seq acc c', slots := #[] } → ItemsOf (fun i v => its[its.size - 1 - i]? = some v) acc its.size → Q (.ref s.heap.objs.size) { s with heap := h', toks := tk }) :
    wpAny (model prog w) A (call (.type "list") [.ref r]) Q E s := by
  refine callType_codes (Q₁ := fun obj z => obj = .ref s.heap.objs.size ∧ z = { s with heap := s.heap.push { cls := .type "list", data := .seq #[] } }) PySem.F.called_list (PySem.F.typeCall_list_1 _) PySem.F.entry_list_init (code_list_new _ ⟨rfl, rfl⟩) fun obj z hz1 => ?_
  obtain ⟨rfl, rfl⟩ := hz1
  obtain ⟨o1, g1, _⟩ := id hr
  obtain ⟨o2, g2, _⟩ := id hl
  have n1 : s.heap.objs.size ≠ r := Nat.ne_of_gt (Heap.lt_size g1)
  have n2 : s.heap.objs.size ≠ l := Nat.ne_of_gt (Heap.lt_size g2)
  have atS : (s.heap.push { cls := .type "list", data := .seq #[] }).get? s.heap.objs.size = some { cls := .type "list", data := .seq #[] } := Heap.get?_push_size _ rfl
  refine ⟨⟨_, atS, rfl⟩, PySem.F.args_list_init_2 _ _, ?_⟩
  show wpAny _ _ (Builtin.List.listItems (.ref s.heap.objs.size) >>= _) _ _ _
  refine wpAny_bind ?_
  unfold Builtin.List.listItems
  refine wpAny_bind (wpAny_seqItems atS rfl (wpAny_pure ?_))
  show wpAny _ _ (updateSeq s.heap.objs.size (fun _ => #[]) >>= _) _ _ _
  refine wpAny_bind (wpAny_updateSeq atS rfl ?_)
  have atS2 := Heap.get?_update_self (Obj.mapSeq (fun _ => (#[] : Array Value))) atS rfl
  have keep : ∀ b o, b ≠ s.heap.objs.size → s.heap.get? b = some o → ((s.heap.push { cls := .type "list", data := .seq #[] }).update s.heap.objs.size (Obj.mapSeq (fun _ => (#[] : Array Value)))).get? b = some o := fun b o nb e =>
    (Heap.get?_update_other _ _ (Ne.symm nb)).trans (Heap.get?_push_of_some _ e)
  refine wpAny_bind (wpAny_letGo ?_)
  refine rev_fill (l := l) (its := its) hh (hr.at fun o e => keep r o (Ne.symm n1) e) (hl.at fun o e => keep l o (Ne.symm n2) e) lr n1 n2 hz atS2 fun h' tk acc c' kp at' got => ?_
  exact ⟨rfl, q h' tk acc c' (fun b o nb e => kp b o (Nat.ne_of_lt (Heap.lt_size e)) nb (keep b o (Nat.ne_of_lt (Heap.lt_size e)) e)) at' got⟩
end
/-- list(reversed(e)), e a list: a new list -/
def tListRev (K : PySem.W.Frag) (te : TE) : TE := fun σ H Q => te σ H fun v H1 => ∃ (a : Addr) (xs : List V), v = .ref a ∧ SqL K H1 a xs ∧ ∀ p, H1 p = none → Q (.ref p) (upd H1 p (.lst xs.reverse))
theorem pe_listRev {X : Cx} {e : Expr} {te : TE} {p p2 pos pos2 : Pos} (hc : X.calm = true) (hg : Gl X "list") (hm : X.mg "list" = none) (hg2 : Gl X "reversed") (hm2 : X.mg "reversed" = none) (he : PE X e te)
    (s1 : starEach [e] X.env = (false, eval e X.env) :: starEach [] X.env := by rfl)
    (s2 : starEach [.Call (.Name "reversed" p2) [e] [] pos2] X.env = (false, eval (.Call (.Name "reversed" p2) [e] [] pos2) X.env) :: starEach [] X.env := by rfl) :
    PE X (.Call (.Name "list" p) [.Call (.Name "reversed" p2) [e] [] pos2] [] pos) (tListRev X.K te) := by
  refine ⟨fun pins s σ H Q I h => ?_⟩
  refine Call_ (ld_blt I hg hm boot_list (PyProof.Rows.callWith_type1 (args_cons (Call_ (ld_blt I hg2 hm2 PyProof.Rows.boot_reversed (PyProof.Rows.callWith_type1 (args_cons (thn (he.run pins s σ H _ I h) fun u z ⟨v, H1, I1, r1, q1⟩ => args_nil ?_) s1) s1 rfl))) s2) s2 rfl))
  obtain ⟨a, xs, rfl, hq, q⟩ := q1
  obtain rfl : u = Value.ref a := r1
  obtain ⟨its, rv, pl, size⟩ := I1.list hq
  refine call_reversed_list pl.isList (args_nil ?_)
  have hl := pl.isList
  obtain ⟨ol, gol, _⟩ := id hl
  have fit : its.toArray.size ≤ sizeLine := by rw [List.size_toArray, ← rv.length]; exact size
  refine rev_list (s := { z with heap := z.heap.push (revObj a ((its.toArray.size : Int) - 1)) }) (I1.ok.hd hc) ⟨_, Heap.get?_push_size _ rfl, rfl, rfl⟩ (hl.push _) (Nat.ne_of_lt (Heap.lt_size gol)) fit fun h' tk acc c' kp at' got => ?_
  have size1 : z.heap.objs.size ≤ (z.heap.push (revObj a ((its.toArray.size : Int) - 1))).objs.size := by rw [Heap.size_push]; exact Nat.le_succ _
  have laid : ObjOk X.prog X.w (upd H1 (z.heap.push (revObj a ((its.toArray.size : Int) - 1))).objs.size (.lst xs.reverse)) h' (z.heap.push (revObj a ((its.toArray.size : Int) - 1))).objs.size (.lst xs.reverse) := by
    refine ⟨by rw [List.length_reverse]; exact size, acc.toList, c', RT.vals_rev rv got, ?_⟩
    rw [Array.toArray_toList]
    exact at'
  exact ⟨.ref _, _, I1.laid (t' := tk) (fun b o e => kp b o (Nat.ne_of_lt (Heap.lt_size e)) (Heap.get?_push_of_some _ e)) size1 laid, rfl, q _ (I1.hok.fresh size1)⟩
end Lm
set_option Elab.async false
set_option linter.all false
set_option maxRecDepth 100000
set_option maxHeartbeats 400000
namespace Lm
open PySem PySem.Spec PyProof.Rows L2
/-- the law's formulas: of two within one another at most -/
def Gd2 (fs : List Fm) : Prop := ∀ f ∈ fs, f.good ∧ f.dep ≤ 2
theorem Gd2.gd {fs : List Fm} (h : Gd2 fs) : Gd fs := fun f hf => ⟨(h f hf).1, Nat.le_trans (h f hf).2 (by decide)⟩
theorem gd2_size {f : Fm} (h : f.dep ≤ 2) : f.size ≤ 3 := by
  have s := Fm.size_dep f
  have p : 2 ^ f.dep ≤ 2 ^ 2 := Nat.pow_le_pow_right (by decide) h
  have e : (2 : Nat) ^ 2 = 4 := by decide
  omega
theorem gd2_words {fs : List Fm} (h : Gd2 fs) : wordsS fs ≤ 3 * fs.length := by
  induction fs with
  | nil => exact Nat.le_refl 0
  | cons f fs ih =>
    have a := gd2_size (h f List.mem_cons_self).2
    have b := ih fun g hg => h g (List.mem_cons_of_mem _ hg)
    show f.size + wordsS fs ≤ 3 * (fs.length + 1)
    omega
theorem gd2_app {L R : List Fm} (h : Gd2 L) (k : Gd2 R) : Gd2 (L ++ R) := fun f hf => (List.mem_append.mp hf).elim (h f) (k f)
theorem gd_shaped {fs : List Fm} (h : Gd fs) : SeqAt.shaped (.list (fs.map Fm.toD)) = true := shaped_fms fs fun f hf => Nat.le_trans (h f hf).2 (by decide)
section
variable (K : PySem.W.Frag)
def spLHolds : Sp := fun vs H Q _ => ∃ (v : V) (L R : List Fm) (a : Addr) (ns : List Int), vs = [v, .ref a] ∧ Dp K H v (cD L R) ∧ Gd L ∧ Gd R ∧ L.length ≤ 1000 ∧ R.length ≤ 1000 ∧ SqL K H a (ns.map V.int) ∧
  ∀ H', Same H H' → Q (.bl (!(L.all fun f => f.tr fun i => decide (i ∈ ns)) || R.any fun f => f.tr fun i => decide (i ∈ ns))) H'
def spLAlike : Sp := fun vs H Q _ => ∃ (v u : V) (L R L' R' : List Fm), vs = [v, u] ∧ Dp K H v (cD L R) ∧ Dp K H u (cD L' R') ∧ Gd L ∧ Gd R ∧ Gd L' ∧ Gd R' ∧ L.length ≤ 1000 ∧ R.length ≤ 1000 ∧ L'.length ≤ 1000 ∧ R'.length ≤ 1000 ∧
  ∀ (c : Bool) (H' : Hp), (c = true ↔ SameF L L' ∧ SameF R R') → Same H H' → Q (.bl c) H'
def spSide : Sp := fun vs H Q _ => ∃ (a : Addr) (ns : List Int) (k b : Int), vs = [.ref a, .int k, .int b] ∧ SqL K H a (ns.map V.int) ∧ ns.length ≤ 63 ∧ 0 ≤ k ∧
  ∀ (r : Addr) (ys : List V) (fs : List Fm) (H' : Hp), Same H H' → H' r = some (.lst ys) → DpAll K H' ys (fs.map Fm.toD) → Gd2 fs → fs.length ≤ 5 → Q (.ref r) H'
end
section
variable {P : Program} {w : World} {K : PySem.W.Frag} {mg : Str → Option Value} {base : Heap} {f : Addr} {fd : FuncData}
theorem scLHolds : FnScope ["_law_claim", "_law_world_here", "_law_f"] ["_law_claim", "_law_world_here"] (defScope sLHolds) := ⟨rfl, rfl, rfl, by decide +kernel, rfl, by decide +kernel, by decide +kernel⟩
theorem ok_lholds (D : Df K mg "_law_holds" sLHolds ["_law_claim", "_law_world_here"] f fd) (B : Blt mg) (ma : mg "any" = none) (T : Has P w K mg base 13 "_law_true" ["_law_f", "_law_world_here"] (spLTrue K 13)) : FnOk P w K mg base CX0 14 f fd ["_law_claim", "_law_world_here"] (spLHolds K) := by
  refine D.fn.ok scLHolds (fun vs H Q E h => ?_) (fun cdv A outer s H vs Q E hr h => ?_)
  · obtain ⟨v, L, R, a, ns, rfl, _⟩ := h
    rfl
  obtain ⟨v, L, R, aw, ns, rfl, hd, gL, gR, n1, n2, hw, q⟩ := h
  refine ⟨_, pss_cons (ps_if (pt_not (pt_val (pe_callB (cr_all rfl) (by rfl) B.all bt_all (pa_cons (pe_lc (own := [("_law_f", 2)]) (g := gName 2) (tt := tYes) rfl scLHolds.nd (pi_list (pe_ix ix_tup (pv 0) pe_int (fun _ _ => rfl)))
        (blkOk_by (N := ["_law_claim", "_law_world_here", "_law_f"]) (sc := defScope sLHolds) (by decide +kernel)) (fun _ _ _ _ _ => pg_name (i := 2) scLHolds.nd rfl (Or.inl rfl)) (fun _ _ _ _ _ => pts_nil) (fun _ _ _ _ _ => pe_callH T hr (by rfl) (pa_cons (pv 2) (pa_cons (pv 1) pa_nil)))) pa_nil)))) (pss_one (ps_ret pe_bl)) pss_nil)
    (pss_one (ps_ret (pe_callB (cr_any rfl) (by rfl) ma bt_any (pa_cons (pe_lc (own := [("_law_f", 2)]) (g := gName 2) (tt := tYes) rfl scLHolds.nd (pi_list (pe_ix ix_tup (pv 0) pe_int (fun _ _ => rfl)))
        (blkOk_by (N := ["_law_claim", "_law_world_here", "_law_f"]) (sc := defScope sLHolds) (by decide +kernel)) (fun _ _ _ _ _ => pg_name (i := 2) scLHolds.nd rfl (Or.inl rfl)) (fun _ _ _ _ _ => pts_nil) (fun _ _ _ _ _ => pe_callH T hr (by rfl) (pa_cons (pv 2) (pa_cons (pv 1) pa_nil)))) pa_nil)))), ?_⟩
  obtain ⟨a, b, c, xs, zs, rfl, ht, hb, hc, db, dc⟩ := dp_claim hd
  have l1 := dpAll_len db
  have l2 := dpAll_len dc
  rw [List.length_map] at l1 l2
  generalize htr : (fun f : Fm => f.tr fun i => decide (i ∈ ns)) = tr at q
  refine ⟨.ref a, rfl, a, _, 0, _, rfl, rfl, ht, at0 _ _, b, rfl, ⟨_, hb⟩, fun D1 nD1 => ?_⟩
  refine lc_map_list (K := K) (a := b) (xs := xs) (ys := (L.map tr).map V.bl) (j := 2) hb nD1 (by rw [List.length_map, List.length_map, l1]) (by rw [List.length_map, List.length_map]; exact sl1000 (by omega)) (fun i x y H' hi hy e Q' q' => ?_) (fun H2 e2 hL => ?_)
  · obtain ⟨g, hg, hx⟩ := kid_get db hi
    have m := List.mem_of_getElem? hg
    have ey : y = .bl (tr g) := by
      rw [List.getElem?_map, List.getElem?_map, hg] at hy
      exact (Option.some.inj hy).symm
    rw [ey, ← htr] at q'
    exact ⟨x, rfl, .ref aw, rfl, x, g, aw, ns, rfl, dp_same e _ _ hx, Nat.lt_succ_of_le (gL g m).2, e.seq hw, q' H' (Same.refl _)⟩
  refine ⟨D1, _, rfl, SqL.of hL, _, rfl, ?_⟩
  rw [all_map]
  refine ite2 (fun z => ?_) (fun z => ?_)
  · have f2 := q H2 e2
    rw [z, Bool.true_or] at f2
    exact f2
  · have z : (!L.all tr) = false := Bool.eq_false_iff.mpr z
    refine ⟨.ref a, rfl, a, _, 1, _, rfl, rfl, sqT_same e2 ht, at1 _ _ _, c, rfl, ⟨_, e2.seq hc⟩, fun D2 nD2 => ?_⟩
    refine lc_map_list (K := K) (a := c) (xs := zs) (ys := (R.map tr).map V.bl) (j := 2) (e2.seq hc) nD2 (by rw [List.length_map, List.length_map, l2]) (by rw [List.length_map, List.length_map]; exact sl1000 (by omega)) (fun i x y H' hi hy e Q' q' => ?_) (fun H3 e3 hR => ?_)
    · obtain ⟨g, hg, hx⟩ := kid_get dc hi
      have m := List.mem_of_getElem? hg
      have ey : y = .bl (tr g) := by
        rw [List.getElem?_map, List.getElem?_map, hg] at hy
        exact (Option.some.inj hy).symm
      rw [ey, ← htr] at q'
      exact ⟨x, rfl, .ref aw, rfl, x, g, aw, ns, rfl, dp_same (e2.trans e) _ _ hx, Nat.lt_succ_of_le (gR g m).2, (e2.trans e).seq hw, q' H' (Same.refl _)⟩
    refine ⟨D2, _, rfl, SqL.of hR, ?_⟩
    rw [any_map]
    have f3 := q H3 (e2.trans e3)
    rw [z, Bool.false_or] at f3
    exact f3
/-! ### _law_alike -/
theorem scLAlike : FnScope ["_law_one", "_law_other_here", "_law_side_here", "_law_f"] ["_law_one", "_law_other_here"] (defScope sLAlike) := ⟨rfl, rfl, rfl, by decide +kernel, rfl, by decide +kernel, by decide +kernel⟩
theorem all_in (L R : List Fm) : (L.map fun f => decide (f ∈ R)).all id = true ↔ ∀ f, f ∈ L → f ∈ R := by
  rw [all_map, List.all_eq_true]
  exact ⟨fun h f hf => of_decide_eq_true (h f hf), fun h f hf => decide_eq_true (h f hf)⟩
theorem ok_lalike (D : Df K mg "_law_alike" sLAlike ["_law_one", "_law_other_here"] f fd) (B : Blt mg) (mr : mg "range" = none) : FnOk P w K mg base CX0 1 f fd ["_law_one", "_law_other_here"] (spLAlike K) := by
  refine D.fn.ok scLAlike (fun vs H Q E h => ?_) (fun cdv A outer s H vs Q E hr h => ?_)
  · obtain ⟨v, u, L, R, L', R', rfl, _⟩ := h
    rfl
  obtain ⟨v, u, L, R, L', R', rfl, hd, he, gL, gR, gL', gR', n1, n2, n3, n4, q⟩ := h
  have hu : (A.deeper (envOfC "_law_alike" (defScope sLAlike) s.heap.objs.size f cdv)).units + 65 < cLine := by have := hr.un; omega
  refine ⟨_, pss_cons (ps_for PassesOwn.never rfl (pi_range1 rfl mr (pa_cons pe_int pa_nil)) (pg_name (i := 2) scLAlike.nd rfl (.inr rfl))
      (pss_one (ps_if (PW.pt (pw_or (pt_not (pt_val (pe_callB (cr_all rfl) (by rfl) B.all bt_all (pa_cons (pe_lc (own := [("_law_f", 3)]) (g := gName 3) (tt := tYes) rfl scLAlike.nd (pi_list (pe_ix ix_tup (pv 0) (pv 2) (fun _ _ => rfl)))
          (blkOk_by (N := ["_law_one", "_law_other_here", "_law_side_here", "_law_f"]) (sc := defScope sLAlike) (by decide +kernel)) (fun _ _ _ _ _ => pg_name (i := 3) scLAlike.nd rfl (Or.inl rfl)) (fun _ _ _ _ _ => pts_nil) (fun _ _ _ _ _ => pe_cmpR (r := rInD K) (op_inD hu) (pv 3) (pe_ix (r := rIxT K) ix_tup (pv 1) (pv 2) (fun _ _ => rfl)) (by rfl))) pa_nil))))
        (pw_or1 (pt_not (pt_val (pe_callB (cr_all rfl) (by rfl) B.all bt_all (pa_cons (pe_lc (own := [("_law_f", 3)]) (g := gName 3) (tt := tYes) rfl scLAlike.nd (pi_list (pe_ix ix_tup (pv 1) (pv 2) (fun _ _ => rfl)))
          (blkOk_by (N := ["_law_one", "_law_other_here", "_law_side_here", "_law_f"]) (sc := defScope sLAlike) (by decide +kernel)) (fun _ _ _ _ _ => pg_name (i := 3) scLAlike.nd rfl (Or.inl rfl)) (fun _ _ _ _ _ => pts_nil) (fun _ _ _ _ _ => pe_cmpR (r := rInD K) (op_inD hu) (pv 3) (pe_ix (r := rIxT K) ix_tup (pv 0) (pv 2) (fun _ _ => rfl)) (by rfl))) pa_nil))))))) (pss_one (ps_ret pe_bl)) pss_nil)))
    (pss_one (ps_ret pe_bl)), ?_⟩
  obtain ⟨a, b, c, xs, zs, rfl, ht, hb, hc, db, dc⟩ := dp_claim hd
  obtain ⟨a', b', c', xs', zs', rfl, ht', hb', hc', db', dc'⟩ := dp_claim he
  refine ⟨2, rfl, by decide, by decide, ?_⟩
  refine for_range (lo := 0) (n := (2 : Int).toNat) (fun i σ H' => ∃ x2 x3 : Option V, σ = [some (.ref a), some (.ref a'), x2, x3] ∧ Same H H' ∧ (1 ≤ i → SameF L L') ∧ (2 ≤ i → SameF R R')) ⟨none, none, rfl, Same.refl _, fun h => absurd h (by decide), fun h => absurd h (by decide)⟩ ?_ ?_
  · rintro i σ H1 hi ⟨x2, x3, rfl, e1, sa, sb⟩
    have hi : i < 2 := hi
    -- one side
    obtain ⟨d, d', ys, ys', M, N, at1', at2', sq, sq', da, da', gM, gN, lM, lN, keep, fail⟩ : ∃ (d d' : Addr) (ys ys' : List V) (M N : List Fm), atI [V.ref b, V.ref c] (0 + (i : Int)) = some (.ref d) ∧ atI [V.ref b', V.ref c'] (0 + (i : Int)) = some (.ref d') ∧ SqL K H d ys ∧ SqL K H d' ys' ∧ DpAll K H ys (M.map Fm.toD) ∧ DpAll K H ys' (N.map Fm.toD) ∧ Gd M ∧ Gd N ∧ M.length ≤ 1000 ∧ N.length ≤ 1000 ∧
        (SameF M N → (1 ≤ i + 1 → SameF L L') ∧ (2 ≤ i + 1 → SameF R R')) ∧ (¬ SameF M N → ¬ (SameF L L' ∧ SameF R R')) := by
      match i, hi with
      | 0, _ => exact ⟨b, b', xs, xs', L, L', rfl, rfl, hb, hb', db, db', gL, gL', n1, n3, fun h => ⟨fun _ => h, fun z => absurd z (by decide)⟩, fun h z => h z.1⟩
      | 1, _ => exact ⟨c, c', zs, zs', R, R', rfl, rfl, hc, hc', dc, dc', gR, gR', n2, n4, fun h => ⟨fun _ => sa (by decide), fun _ => h⟩, fun h z => h z.2⟩
    have l1 := dpAll_len da
    have l2 := dpAll_len da'
    rw [List.length_map] at l1 l2
    refine ⟨.ref a, rfl, .int (0 + i), rfl, a, _, _, _, rfl, rfl, sqT_same e1 ht, at1', d, rfl, ⟨_, e1.seq sq⟩, fun D1 nD1 => ?_⟩
    refine lc_map_list (K := K) (a := d) (xs := ys) (ys := (M.map fun f => decide (f ∈ N)).map V.bl) (j := 3) (e1.seq sq) nD1 (by rw [List.length_map, List.length_map, l1]) (by rw [List.length_map, List.length_map]; exact sl1000 (by omega)) (fun k x y H' hk hy e Q' q' => ?_) (fun H2 e2 hL => ?_)
    · obtain ⟨g, hg, hx⟩ := kid_get da hk
      have m := List.mem_of_getElem? hg
      have ey : y = .bl (decide (g ∈ N)) := by
        rw [List.getElem?_map, List.getElem?_map, hg] at hy
        exact (Option.some.inj hy).symm
      rw [ey, ← any_fm] at q'
      exact ⟨x, rfl, .ref a', rfl, .int (0 + i), rfl, a', _, _, _, rfl, rfl, sqT_same (e1.trans e) ht', at2', g.toD, N.map Fm.toD, dp_same (e1.trans e) _ _ hx, .lst ((e1.trans e).seq sq') (dpAll_same (e1.trans e) _ _ da'), shaped_fm g (Nat.le_trans (gM g m).2 (by decide)), gd_shaped gN, q' H' (Same.refl _)⟩
    refine ⟨D1, _, rfl, SqL.of hL, _, rfl, ?_⟩
    refine ite2 (fun z => ?_) (fun z => ?_)
    · have z : (M.map fun f => decide (f ∈ N)).all id = false := by simpa using z
      refine q false H2 ⟨fun h => (nomatch h), fun h => ?_⟩ (e1.trans e2)
      refine absurd h (fail fun sm => ?_)
      rw [(all_in M N).2 fun f hf => (sm f).1 hf] at z
      cases z
    have sub1 : ∀ f, f ∈ M → f ∈ N := (all_in M N).1 (by simpa using z)
    have e12 := e1.trans e2
    refine ⟨.ref a', rfl, .int (0 + i), rfl, a', _, _, _, rfl, rfl, sqT_same e12 ht', at2', d', rfl, ⟨_, e12.seq sq'⟩, fun D2 nD2 => ?_⟩
    refine lc_map_list (K := K) (a := d') (xs := ys') (ys := (N.map fun f => decide (f ∈ M)).map V.bl) (j := 3) (e12.seq sq') nD2 (by rw [List.length_map, List.length_map, l2]) (by rw [List.length_map, List.length_map]; exact sl1000 (by omega)) (fun k x y H' hk hy e Q' q' => ?_) (fun H3 e3 hR => ?_)
    · obtain ⟨g, hg, hx⟩ := kid_get da' hk
      have m := List.mem_of_getElem? hg
      have ey : y = .bl (decide (g ∈ M)) := by
        rw [List.getElem?_map, List.getElem?_map, hg] at hy
        exact (Option.some.inj hy).symm
      rw [ey, ← any_fm] at q'
      exact ⟨x, rfl, .ref a, rfl, .int (0 + i), rfl, a, _, _, _, rfl, rfl, sqT_same (e12.trans e) ht, at1', g.toD, M.map Fm.toD, dp_same (e12.trans e) _ _ hx, .lst ((e12.trans e).seq sq) (dpAll_same (e12.trans e) _ _ da), shaped_fm g (Nat.le_trans (gN g m).2 (by decide)), gd_shaped gM, q' H' (Same.refl _)⟩
    refine ⟨D2, _, rfl, SqL.of hR, _, rfl, ?_⟩
    refine ite2 (fun z => ?_) (fun z => ?_)
    · have z : (N.map fun f => decide (f ∈ M)).all id = false := by simpa using z
      refine q false H3 ⟨fun h => (nomatch h), fun h => ?_⟩ (e12.trans e3)
      refine absurd h (fail fun sm => ?_)
      rw [(all_in N M).2 fun f hf => (sm f).2 hf] at z
      cases z
    have sub2 : ∀ f, f ∈ N → f ∈ M := (all_in N M).1 (by simpa using z)
    have both := keep fun f => ⟨sub1 f, sub2 f⟩
    exact ⟨_, _, rfl, e12.trans e3, both.1, both.2⟩
  · rintro σ H1 ⟨x2, x3, rfl, e1, sa, sb⟩
    exact q true H1 ⟨fun _ => ⟨sa (by decide), sb (by decide)⟩, fun _ => rfl⟩ e1
end
end Lm
set_option Elab.async false
set_option linter.all false
set_option maxRecDepth 100000
set_option maxHeartbeats 400000
namespace Lm
open PySem PySem.Spec PyProof.Rows L2
theorem cutTo (xs : List V) (n : Nat) : cutV xs none (some (n : Int)) = xs.take n := by
  unfold cutV
  have e1 : HT.sIx xs.length 0 none = 0 := rfl
  rw [e1, HT.sIx_nat, List.drop_zero, Nat.sub_zero]
  by_cases h : n ≤ xs.length
  · rw [Nat.min_eq_left h]
  · rw [Nat.min_eq_right (by omega), List.take_length, List.take_of_length_le (by omega)]
theorem cutFrom (xs : List V) (n : Nat) : cutV xs (some (n : Int)) none = xs.drop n := by
  unfold cutV
  have e2 : HT.sIx xs.length xs.length none = xs.length := rfl
  rw [e2, HT.sIx_nat]
  by_cases h : n ≤ xs.length
  · rw [Nat.min_eq_left h, List.take_of_length_le (by rw [List.length_drop]; omega)]
  · rw [Nat.min_eq_right (by omega), List.drop_length, List.drop_eq_nil_of_le (by omega), List.take_nil]
section
variable {K : PySem.W.Frag} {H : Hp}
theorem fms_take : ∀ (n : Nat) {vs : List V} {fs : List Fm}, DpAll K H vs (fs.map Fm.toD) → DpAll K H (vs.take n) ((fs.take n).map Fm.toD)
  | 0, _, _, _ => .nil
  | n + 1, _, [], h => by cases h; exact .nil
  | n + 1, _, f :: fs, h => by
    have h : DpAll K H _ (f.toD :: fs.map Fm.toD) := h
    cases h with
    | cons h1 h2 => exact .cons h1 (fms_take n h2)
theorem fms_drop : ∀ (n : Nat) {vs : List V} {fs : List Fm}, DpAll K H vs (fs.map Fm.toD) → DpAll K H (vs.drop n) ((fs.drop n).map Fm.toD)
  | 0, _, _, h => h
  | n + 1, _, [], h => by cases h; exact .nil
  | n + 1, _, f :: fs, h => by
    have h : DpAll K H _ (f.toD :: fs.map Fm.toD) := h
    cases h with
    | cons h1 h2 => exact fms_drop n h2
theorem fms_app {vs ws : List V} {fs gs : List Fm} (h : DpAll K H vs (fs.map Fm.toD)) (k : DpAll K H ws (gs.map Fm.toD)) : DpAll K H (vs ++ ws) ((fs ++ gs).map Fm.toD) := by
  rw [List.map_append]
  exact dpAll_app h k
theorem fms_rev : ∀ {vs : List V} {fs : List Fm}, DpAll K H vs (fs.map Fm.toD) → DpAll K H vs.reverse (fs.reverse.map Fm.toD)
  | _, [], h => by cases h; exact .nil
  | _, f :: fs, h => by
    have h : DpAll K H _ (f.toD :: fs.map Fm.toD) := h
    cases h with
    | cons h1 h2 =>
      rw [List.reverse_cons, List.reverse_cons]
      exact fms_app (fms_rev h2) (.cons h1 .nil)
theorem fms_one {v : V} {f : Fm} (h : Dp K H v f.toD) : DpAll K H [v] ([f].map Fm.toD) := .cons h .nil
theorem mk_cD {a b c : Addr} {xs zs : List V} {L R : List Fm} (ht : SqT K H a [.ref b, .ref c]) (hb : SqL K H b xs) (hc : SqL K H c zs) (db : DpAll K H xs (L.map Fm.toD)) (dc : DpAll K H zs (R.map Fm.toD)) : Dp K H (.ref a) (cD L R) := .tup ht (.cons (.lst hb db) (.cons (.lst hc dc) .nil))
end
theorem gd2_take {fs : List Fm} (h : Gd2 fs) (n : Nat) : Gd2 (fs.take n) := fun f hf => h f (List.mem_of_mem_take hf)
theorem gd2_drop {fs : List Fm} (h : Gd2 fs) (n : Nat) : Gd2 (fs.drop n) := fun f hf => h f (List.mem_of_mem_drop hf)
theorem gd2_one {f : Fm} (h : f.good) (k : f.dep ≤ 2) : Gd2 [f] := fun g hg => by rw [List.mem_singleton.mp hg]; exact ⟨h, k⟩
theorem two_of (z : Int) : ∃ n : Nat, n ≤ 1 ∧ z % 2 = (n : Int) := ⟨(z % 2).toNat, by have := mod_hi z (by decide : (0 : Int) < 2); have := mod_lo z (by decide : (0 : Int) < 2); omega, by have := mod_lo z (by decide : (0 : Int) < 2); omega⟩
def spOther (K : PySem.W.Frag) : Sp := fun vs H Q _ => ∃ (a : Addr) (ns : List Int) (v : V) (L R : List Fm) (b : Int), vs = [.ref a, v, .int b] ∧ SqL K H a (ns.map V.int) ∧ ns.length ≤ 63 ∧ Dp K H v (cD L R) ∧ Gd2 L ∧ Gd2 R ∧ L.length ≤ 5 ∧ R.length ≤ 5 ∧
  ∀ (v' : V) (L' R' : List Fm) (H' : Hp), Same H H' → Dp K H' v' (cD L' R') → Gd2 L' → Gd2 R' → L'.length ≤ 7 → R'.length ≤ 7 → Q v' H'
section
variable {P : Program} {w : World} {K : PySem.W.Frag} {mg : Str → Option Value} {base : Heap} {f : Addr} {fd : FuncData}
theorem scSide : FnScope ["_law_script", "_law_at", "_law_base", "_law_many", "_law_row", "_law_k"] ["_law_script", "_law_at", "_law_base"] (defScope sSide) := ⟨rfl, rfl, rfl, by decide +kernel, rfl, by decide +kernel, by decide +kernel⟩
theorem ok_side (D : Df K mg "_law_side" sSide ["_law_script", "_law_at", "_law_base"] f fd) (mr : mg "range" = none) (C : Has P w K mg base 1 "_law_cell_at" ["_law_script", "_law_k"] (spCellA K)) (FO : Has P w K mg base 4 "_law_formula" ["_law_cell", "_law_deep", "_law_base"] (spFormula K 2)) :
    FnOk P w K mg base CX0 5 f fd ["_law_script", "_law_at", "_law_base"] (spSide K) := by
  refine D.fn.ok scSide (fun vs H Q E h => ?_) (fun cdv A outer s H vs Q E hr h => ?_)
  · obtain ⟨a, ns, k, b, rfl, _⟩ := h
    rfl
  obtain ⟨a, ns, k, b, rfl, hs, hl, h0, q⟩ := h
  have r1 : Room 1 (A.deeper (envOfC "_law_side" (defScope sSide) s.heap.objs.size f cdv)) := hr.mono (by decide)
  refine ⟨_, pss_cons (ps_set (i := 3) scSide.nd rfl (.inl rfl) (pe_op op_mod (pe_callH C r1 (by rfl) (pa_cons (pv 0) (pa_cons (pv 1) pa_nil))) pe_int))
    (pss_cons (ps_setLc (i := 4) (own := [("_law_k", 5)]) (g := gName 5) (tt := tYes) rfl scSide.nd rfl rfl (sw_true rfl rfl rfl (by decide +kernel)) (pi_range1 rfl mr (pa_cons (pv 3) pa_nil))
      (blkOk_by (N := ["_law_script", "_law_at", "_law_base", "_law_many", "_law_row", "_law_k"]) (sc := defScope sSide) (by decide +kernel)) (fun _ _ _ _ _ => pg_name (i := 5) scSide.nd rfl (Or.inl rfl)) (fun _ _ _ _ _ => pts_nil)
      (fun _ _ _ _ _ => pe_callH FO hr (by rfl) (pa_cons (pe_op op_mod (pe_op op_mul (pe_callH C r1 (by rfl) (pa_cons (pv 0) (pa_cons (pe_op op_add (pe_op op_add (pv 1) pe_int) (pv 5)) pa_nil))) pe_int) pe_int) (pa_cons pe_int (pa_cons (pv 2) pa_nil)))))
    (pss_one (ps_ret (pe_op op_cat (pv 4) (pe_slice sl_list (pv 4) po_none (po_some (pe_op op_mod (pe_op op_fdiv (pe_callH C r1 (by rfl) (pa_cons (pv 0) (pa_cons (pv 1) pa_nil))) pe_int) pe_int))))))), ?_⟩
  refine ⟨.ref a, rfl, .int k, rfl, a, ns, k, rfl, hs, hl, h0, fun c0 => ⟨c0, 5, rfl, rfl, (by show (0 : Int) < 5; decide), ?_⟩⟩
  have m0 := mod_lo c0 (by decide : (0 : Int) < 5)
  have m1 := mod_hi c0 (by decide : (0 : Int) < 5)
  refine ⟨.int (c0 % 5), rfl, c0 % 5, rfl, by omega, by omega, fun D1 nD => ?_⟩
  refine lc_range (lo := 0) (n := (c0 % 5).toNat) (fun i H' => Same H H' ∧ ∃ (ys : List V) (fs : List Fm), H' D1 = some (.lst ys) ∧ DpAll K H' ys (fs.map Fm.toD) ∧ Gd2 fs ∧ fs.length = i ∧ i ≤ 4) ⟨same_new nD _, [], [], upd_same, .nil, (fun _ h => nomatch h), rfl, by decide⟩ (fun i H' hi p => ?_) (fun H' p => ?_)
  · obtain ⟨e1, ys, fs, h1, d1, g1, l1, i1⟩ := p
    have yl := dpAll_len d1
    rw [List.length_map] at yl
    refine ⟨wipe1 _ _ _, ?_⟩
    refine ⟨.ref a, rfl, .int k, rfl, k, 1, rfl, rfl, .int (0 + i), rfl, k + 1, 0 + (i : Int), rfl, rfl, a, ns, k + 1 + (0 + (i : Int)), rfl, e1.seq hs, hl, by omega, fun c => ?_⟩
    refine ⟨c, 48271, rfl, rfl, .inr ⟨by decide, by decide⟩, _, 1000003, rfl, rfl, (by show (0 : Int) < 1000003; decide), .int b, rfl, _, 1, b, rfl, by decide, by decide, fun v g H2 e2 hv gg gd => ?_⟩
    refine ⟨ys, e2 _ _ h1, sl1001 (by omega), same_upd (e1.trans e2) nD, ys ++ [v], fs ++ [g], upd_same, ?_, ?_, by rw [List.length_append, l1]; rfl, by omega⟩
    · have s3 : Same H H2 := e1.trans e2
      have keep : Tk K H2 (upd H2 D1 (.lst (ys ++ [v]))) := Tk.of_but (But.upd D1 H2 _) (.inl ⟨_, e2 _ _ h1⟩)
      exact fms_app (fms_keep keep _ _ (dpAll_same e2 _ _ d1)) (fms_one (fm_keep keep _ _ hv))
    · exact gd2_app g1 (gd2_one gg (by omega))
  · obtain ⟨e1, ys, fs, h1, d1, g1, l1, i1⟩ := p
    have yl := dpAll_len d1
    rw [List.length_map] at yl
    refine ⟨.ref D1, rfl, .ref D1, rfl, .ref a, rfl, .int k, rfl, a, ns, k, rfl, e1.seq hs, hl, h0, fun c => ⟨c, 5, rfl, rfl, ⟨by decide, by decide⟩, c / 5, 2, rfl, rfl, (by show (0 : Int) < 2; decide), ?_⟩⟩
    obtain ⟨n, n1, en⟩ := two_of (c / 5)
    refine ⟨c / 5 % 2, rfl, D1, ys, rfl, SqL.of h1, fun p np => ?_⟩
    rw [en, cutTo]
    have s2 := same_new np (HO.lst (ys.take n))
    refine ⟨D1, p, ys, ys.take n, rfl, rfl, s2 _ _ h1, upd_same, sl1000 (by rw [List.length_take]; omega), fun p2 np2 => ?_⟩
    have s3 := same_new np2 (HO.lst (ys ++ ys.take n))
    exact q p2 _ (fs ++ fs.take n) _ (e1.trans (s2.trans s3)) upd_same (fms_app (dpAll_same (s2.trans s3) _ _ d1) (dpAll_same (s2.trans s3) _ _ (fms_take n d1))) (gd2_app g1 (gd2_take g1 n)) (by rw [List.length_append, List.length_take]; omega)
end
end Lm
set_option Elab.async false
set_option linter.all false
set_option maxRecDepth 100000
set_option maxHeartbeats 400000
namespace Lm
open PySem PySem.Spec PyProof.Rows L2
section
variable {P : Program} {w : World} {K : PySem.W.Frag} {mg : Str → Option Value} {base : Heap} {f : Addr} {fd : FuncData}
theorem scOther : FnScope ["_law_script", "_law_claim", "_law_base", "_law_cell", "_law_left", "_law_right", "_law_f"] ["_law_script", "_law_claim", "_law_base"] (defScope sOther) := ⟨rfl, rfl, rfl, by decide +kernel, rfl, by decide +kernel, by decide +kernel⟩
theorem ok_other (D : Df K mg "_law_other" sOther ["_law_script", "_law_claim", "_law_base"] f fd) (B : Blt mg) (mrev : mg "reversed" = none) (C : Has P w K mg base 1 "_law_cell_at" ["_law_script", "_law_k"] (spCellA K)) (FO : Has P w K mg base 4 "_law_formula" ["_law_cell", "_law_deep", "_law_base"] (spFormula K 2)) (SI : Has P w K mg base 5 "_law_side" ["_law_script", "_law_at", "_law_base"] (spSide K)) :
    FnOk P w K mg base CX0 6 f fd ["_law_script", "_law_claim", "_law_base"] (spOther K) := by
  refine D.fn.ok scOther (fun vs H Q E h => ?_) (fun cdv A outer s H vs Q E hr h => ?_)
  · obtain ⟨a, ns, v, L, R, b, rfl, _⟩ := h
    rfl
  obtain ⟨a, ns, v, L, R, b, rfl, hs, hl, hd, gL, gR, nL, nR, q⟩ := h
  have r1 : Room 1 (A.deeper (envOfC "_law_other" (defScope sOther) s.heap.objs.size f cdv)) := hr.mono (by decide)
  have r4 : Room 4 (A.deeper (envOfC "_law_other" (defScope sOther) s.heap.objs.size f cdv)) := hr.mono (by decide)
  refine ⟨_, pss_cons (ps_set (i := 3) scOther.nd rfl (.inl rfl) (pe_callH C r1 (by rfl) (pa_cons (pv 0) (pa_cons pe_int pa_nil))))
    (pss_cons (ps_set (i := 4) scOther.nd rfl (.inl rfl) (pe_op op_cat (pe_listRev rfl (by rfl) B.list (by rfl) mrev (pe_ix ix_tup (pv 1) pe_int (fun _ _ => rfl))) (pe_slice sl_list (pe_ix ix_tup (pv 1) pe_int (fun _ _ => rfl)) po_none (po_some (pe_op op_mod (pe_op op_fdiv (pv 3) pe_int) pe_int)))))
    (pss_cons (ps_set (i := 5) scOther.nd rfl (.inl rfl) (pe_op op_cat (pe_slice sl_list (pe_ix ix_tup (pv 1) pe_int (fun _ _ => rfl)) (po_some (pe_op op_mod (pe_op op_fdiv (pv 3) pe_int) pe_int)) po_none) (pe_slice sl_list (pe_ix ix_tup (pv 1) pe_int (fun _ _ => rfl)) po_none (po_some (pe_op op_mod (pe_op op_fdiv (pv 3) pe_int) pe_int)))))
    (pss_cons (ps_set (i := 6) scOther.nd rfl (.inl rfl) (pe_callH FO r4 (by rfl) (pa_cons (pe_op op_mod (pe_op op_mul (pe_op op_fdiv (pv 3) pe_int) pe_int) pe_int) (pa_cons pe_int (pa_cons (pv 2) pa_nil)))))
    (pss_cons (ps_if (pt_cmpR op_eq (pe_op op_mod (pv 3) pe_int) pe_int (nomark _)) (pss_one (ps_set (i := 4) scOther.nd rfl (.inl rfl) (pe_op op_cat (pv 4) (pe_lst (pa_cons (pv 6) pa_nil)))))
      (pss_one (ps_if (pt_cmpR op_eq (pe_op op_mod (pv 3) pe_int) pe_int (nomark _)) (pss_one (ps_set (i := 5) scOther.nd rfl (.inl rfl) (pe_slice sl_list (pv 5) (po_some pe_int) po_none)))
        (pss_one (ps_if (PW.pt (pw_and (pt_cmpR op_eq (pe_op op_mod (pv 3) pe_int) pe_int (nomark _)) (pw_and1 (pt_cmpR op_gt (pe_callB call_len_seq (by rfl) B.len PySem.boot_len (pa_cons (pv 4) pa_nil)) pe_int (nomark _))))) (pss_one (ps_set (i := 5) scOther.nd rfl (.inl rfl) (pe_op op_cat (pv 5) (pe_lst (pa_cons (pe_bm0 PySem.F.plainAttrs_list PySem.F.slot_list_pop PySem.F.type_list_pop mt_pop (pv 4)) pa_nil)))))
          (pss_one (ps_if (pt_cmpR op_eq (pe_op op_mod (pv 3) pe_int) pe_int (nomark _)) (pss_one (ps_ret (pe_tup (pa_cons (pe_callH SI hr (by rfl) (pa_cons (pv 0) (pa_cons pe_int (pa_cons (pv 2) pa_nil)))) (pa_cons (pe_callH SI hr (by rfl) (pa_cons (pv 0) (pa_cons pe_int (pa_cons (pv 2) pa_nil)))) pa_nil))))) pss_nil)))))))
    (pss_one (ps_ret (pe_tup (pa_cons (pv 4) (pa_cons (pv 5) pa_nil))))))))), ?_⟩
  have q' : ∀ (l r p : Addr) (ls rs : List V) (L' R' : List Fm) (H' : Hp), Same H H' → H' l = some (.lst ls) → H' r = some (.lst rs) → DpAll K H' ls (L'.map Fm.toD) → DpAll K H' rs (R'.map Fm.toD) → Gd2 L' → Gd2 R' → L'.length ≤ 7 → R'.length ≤ 7 → H' p = none → Q (.ref p) (upd H' p (.tup [.ref l, .ref r])) := fun l r p ls rs L' R' H' e h1 h2 d1 d2 g1 g2 l1 l2 np => by
    have s1 := same_new np (HO.tup [V.ref l, V.ref r])
    exact q (.ref p) L' R' _ (e.trans s1) (mk_cD (SqT.of upd_same) (SqL.of (s1 _ _ h1)) (SqL.of (s1 _ _ h2)) (dpAll_same s1 _ _ d1) (dpAll_same s1 _ _ d2)) g1 g2 l1 l2
  have two : 2 ≤ sizeLine := sl1000 (by decide)
  refine ⟨.ref a, rfl, a, ns, 12, rfl, hs, hl, by decide, fun c => ?_⟩
  obtain ⟨ac, b1, b2, xs, zs, rfl, ht, hb, hc, db, dc⟩ := dp_claim hd
  have n1 := dpAll_len db
  have n2 := dpAll_len dc
  rw [List.length_map] at n1 n2
  obtain ⟨n, nn, en⟩ := two_of (c / 6)
  obtain ⟨m, mm, em⟩ := two_of (c / 12)
  -- left
  refine ⟨.ref ac, rfl, ac, _, 0, _, rfl, rfl, ht, at0 _ _, b1, xs, rfl, hb, fun p1 np1 => ?_⟩
  have s1 := same_new np1 (HO.lst xs.reverse)
  refine ⟨.ref ac, rfl, ac, _, 0, _, rfl, rfl, sqT_same s1 ht, at0 _ _, .int c, rfl, c, 6, rfl, rfl, ⟨by decide, by decide⟩, c / 6, 2, rfl, rfl, (by show (0 : Int) < 2; decide), c / 6 % 2, rfl, b1, xs, rfl, s1.seq hb, fun p2 np2 => ?_⟩
  rw [en, cutTo]
  have s2 := same_new np2 (HO.lst (xs.take n))
  refine ⟨p1, p2, xs.reverse, xs.take n, rfl, rfl, s2 _ _ upd_same, upd_same, sl1000 (by rw [List.length_reverse, List.length_take]; omega), fun p3 np3 => ?_⟩
  have s3 := same_new np3 (HO.lst (xs.reverse ++ xs.take n))
  have s12 := s1.trans s2
  have n3 : H p3 = none := by
    cases z : H p3 with
    | none => rfl
    | some o => exact absurd (s12 _ _ z) (by rw [np3]; exact fun y => nomatch y)
  have e3 := s12.trans s3
  have h3 := @upd_same (upd (upd H p1 (HO.lst xs.reverse)) p2 (HO.lst (xs.take n))) p3 (HO.lst (xs.reverse ++ xs.take n))
  have d3 := dpAll_same e3 _ _ (fms_app (fms_rev db) (fms_take n db))
  generalize upd (upd (upd H p1 (HO.lst xs.reverse)) p2 (HO.lst (xs.take n))) p3 (HO.lst (xs.reverse ++ xs.take n)) = H3 at e3 h3 d3 ⊢
  have g3 : Gd2 (L.reverse ++ L.take n) := gd2_app (fun f hf => gL f (List.mem_reverse.mp hf)) (gd2_take gL n)
  have l3 : (L.reverse ++ L.take n).length ≤ 6 := by rw [List.length_append, List.length_reverse, List.length_take]; omega
  have v3 := dpAll_len d3
  rw [List.length_map] at v3
  generalize L.reverse ++ L.take n = L1 at d3 g3 l3 v3
  generalize xs.reverse ++ xs.take n = xs1 at h3 d3 v3
  -- right
  refine ⟨.ref ac, rfl, ac, _, 1, _, rfl, rfl, sqT_same e3 ht, at1 _ _ _, .int c, rfl, c, 12, rfl, rfl, ⟨by decide, by decide⟩, c / 12, 2, rfl, rfl, (by show (0 : Int) < 2; decide), c / 12 % 2, rfl, b2, zs, rfl, e3.seq hc, fun p4 np4 => ?_⟩
  rw [em, cutFrom]
  have s4 := same_new np4 (HO.lst (zs.drop m))
  refine ⟨.ref ac, rfl, ac, _, 1, _, rfl, rfl, sqT_same (e3.trans s4) ht, at1 _ _ _, .int c, rfl, c, 12, rfl, rfl, ⟨by decide, by decide⟩, c / 12, 2, rfl, rfl, (by show (0 : Int) < 2; decide), c / 12 % 2, rfl, b2, zs, rfl, (e3.trans s4).seq hc, fun p5 np5 => ?_⟩
  rw [em, cutTo]
  have s5 := same_new np5 (HO.lst (zs.take m))
  refine ⟨p4, p5, zs.drop m, zs.take m, rfl, rfl, s5 _ _ upd_same, upd_same, sl1000 (by rw [List.length_drop, List.length_take]; omega), fun p6 np6 => ?_⟩
  have s6 := same_new np6 (HO.lst (zs.drop m ++ zs.take m))
  have s46 := s4.trans (s5.trans s6)
  have h6 := @upd_same (upd (upd H3 p4 (HO.lst (zs.drop m))) p5 (HO.lst (zs.take m))) p6 (HO.lst (zs.drop m ++ zs.take m))
  have d6 := dpAll_same (e3.trans s46) _ _ (fms_app (fms_drop m dc) (fms_take m dc))
  have h36 := s46 _ _ h3
  have d36 := dpAll_same s46 _ _ d3
  have e6 := e3.trans s46
  have ne36 : p6 ≠ p3 := fun z => by
    have y := s5 _ _ (s4 _ _ h3)
    rw [← z, np6] at y
    cases y
  generalize upd (upd (upd H3 p4 (HO.lst (zs.drop m))) p5 (HO.lst (zs.take m))) p6 (HO.lst (zs.drop m ++ zs.take m)) = H6 at e6 h6 d6 h36 d36 ⊢
  have g6 : Gd2 (R.drop m ++ R.take m) := gd2_app (gd2_drop gR m) (gd2_take gR m)
  have l6 : (R.drop m ++ R.take m).length ≤ 6 := by rw [List.length_append, List.length_drop, List.length_take]; omega
  have v6 := dpAll_len d6
  rw [List.length_map] at v6
  generalize R.drop m ++ R.take m = R1 at d6 g6 l6 v6
  generalize zs.drop m ++ zs.take m = zs1 at h6 d6 v6
  -- a formula
  refine ⟨.int c, rfl, c, 24, rfl, rfl, ⟨by decide, by decide⟩, c / 24, 48271, rfl, rfl, .inr ⟨by decide, by decide⟩, _, 1000003, rfl, rfl, (by show (0 : Int) < 1000003; decide), .int b, rfl, _, 1, b, rfl, by decide, by decide, fun vf g H7 e7 hf gg gd => ?_⟩
  have h37 := e7 _ _ h36
  have d37 := dpAll_same e7 _ _ d36
  have h67 := e7 _ _ h6
  have d67 := dpAll_same e7 _ _ d6
  have e07 := e6.trans e7
  refine ⟨.int c, rfl, c, 6, rfl, rfl, (by show (0 : Int) < 6; decide), rfl, _, rfl, ?_⟩
  refine ite2 (fun _ => ?_) (fun _ => ?_)
  · refine ⟨.ref p3, rfl, vf, rfl, (by show 1 ≤ sizeLine; exact sl1000 (by decide)), fun p8 np8 => ?_⟩
    have s8 := same_new np8 (HO.lst [vf])
    refine ⟨p3, p8, xs1, [vf], rfl, rfl, s8 _ _ h37, upd_same, sl1000 (by show xs1.length + 1 ≤ 100000; omega), fun p9 np9 => ?_⟩
    have s9 := same_new np9 (HO.lst (xs1 ++ [vf]))
    have s89 := s8.trans s9
    exact ⟨.ref p9, rfl, .ref p6, rfl, two, fun p np => q' p9 p6 p _ _ (L1 ++ [g]) R1 _ (e07.trans s89) upd_same (s89 _ _ h67) (dpAll_same s89 _ _ (fms_app d37 (fms_one hf))) (dpAll_same s89 _ _ d67) (gd2_app g3 (gd2_one gg (by omega))) g6 (by rw [List.length_append]; show L1.length + 1 ≤ 7; omega) (by omega) np⟩
  refine ⟨.int c, rfl, c, 6, rfl, rfl, (by show (0 : Int) < 6; decide), rfl, _, rfl, ?_⟩
  refine ite2 (fun _ => ?_) (fun _ => ?_)
  · refine ⟨.ref p6, rfl, 1, rfl, p6, zs1, rfl, SqL.of h67, fun p8 np8 => ?_⟩
    rw [show cutV zs1 (some 1) none = zs1.drop 1 from cutFrom zs1 1]
    have s8 := same_new np8 (HO.lst (zs1.drop 1))
    exact ⟨.ref p3, rfl, .ref p8, rfl, two, fun p np => q' p3 p8 p _ _ L1 (R1.drop 1) _ (e07.trans s8) (s8 _ _ h37) upd_same (dpAll_same s8 _ _ d37) (dpAll_same s8 _ _ (fms_drop 1 d67)) g3 (gd2_drop g6 1) (by omega) (by rw [List.length_drop]; omega) np⟩
  -- the fourth
  have plain : ∀ p, H7 p = none → Q (.ref p) (upd H7 p (.tup [.ref p3, .ref p6])) := fun p np => q' p3 p6 p _ _ L1 R1 H7 e07 h37 h67 d37 d67 g3 g6 (by omega) (by omega) np
  refine ⟨.int c, rfl, c, 6, rfl, rfl, (by show (0 : Int) < 6; decide), rfl, _, rfl, ?_⟩
  refine ite2 (fun c3 => ?_) (fun _ => ?_)
  · refine ⟨.ref p3, rfl, p3, xs1, rfl, .inl (SqL.of h37), ((xs1.length : Nat) : Int), 0, rfl, rfl, _, rfl, ?_⟩
    refine ite2 (fun pos => ?_) (fun _ => ?_)
    · have pos : 0 < ((xs1.length : Nat) : Int) := of_decide_eq_true pos
      have lt : xs1.length - 1 < xs1.length := by omega
      have last : xs1[xs1.length - 1]? = some (xs1[xs1.length - 1]'lt) := List.getElem?_eq_getElem lt
      obtain ⟨k, hk, hy⟩ := kid_get d37 last
      generalize xs1[xs1.length - 1]'lt = y at last hy
      have mk := List.mem_of_getElem? hk
      refine ⟨.ref p6, rfl, .ref p3, rfl, .inl ⟨rfl, _, SqL.of h37⟩, p3, xs1, y, rfl, rfl, h37, last, (by show 1 ≤ sizeLine; exact sl1000 (by decide)), fun p8 np8 => ?_⟩
      have but := But.upd p3 H7 (HO.lst xs1.dropLast)
      have tk : Tk K H7 (upd H7 p3 (.lst xs1.dropLast)) := Tk.of_but but (.inl ⟨_, h37⟩)
      have eP : Same H (upd H7 p3 (.lst xs1.dropLast)) := same_upd e07 n3
      have s8 := same_new np8 (HO.lst [y])
      have h68 : (upd H7 p3 (.lst xs1.dropLast)) p6 = some (.lst zs1) := but _ _ h67 ne36
      refine ⟨p6, p8, zs1, [y], rfl, rfl, s8 _ _ h68, upd_same, sl1000 (by show zs1.length + 1 ≤ 100000; omega), fun p9 np9 => ?_⟩
      have s9 := same_new np9 (HO.lst (zs1 ++ [y]))
      have s89 := s8.trans s9
      have dl := fms_keep tk _ _ (fms_take (xs1.length - 1) d37)
      rw [← List.dropLast_eq_take] at dl
      exact ⟨.ref p3, rfl, .ref p9, rfl, two, fun p np => q' p3 p9 p _ _ _ (R1 ++ [k]) _ (eP.trans s89) (s89 _ _ upd_same) upd_same (dpAll_same s89 _ _ dl) (dpAll_same s89 _ _ (fms_app (fms_keep tk _ _ d67) (fms_one (fm_keep tk _ _ hy)))) (gd2_take g3 _) (gd2_app g6 (gd2_one (g3 k mk).1 (g3 k mk).2)) (by rw [List.length_take]; omega) (by rw [List.length_append]; show R1.length + 1 ≤ 7; omega) np⟩
    · refine ⟨.int c, rfl, c, 6, rfl, rfl, (by show (0 : Int) < 6; decide), rfl, _, rfl, ?_⟩
      refine ite2 (fun _ => ?_) (fun _ => ?_)
      · refine ⟨.ref a, rfl, .int b, rfl, a, ns, 13, b, rfl, e07.seq hs, hl, by decide, fun r1 ys1 fs1 H8 e8 h8 d8 g8 l8 => ?_⟩
        refine ⟨.ref a, rfl, .int b, rfl, a, ns, 19, b, rfl, (e07.trans e8).seq hs, hl, by decide, fun r2 ys2 fs2 H9 e9 h9 d9 g9 l9 => ?_⟩
        exact ⟨two, fun p np => q' r1 r2 p _ _ fs1 fs2 H9 (e07.trans (e8.trans e9)) (e9 _ _ h8) h9 (dpAll_same e9 _ _ d8) d9 g8 g9 (by omega) (by omega) np⟩
      · exact ⟨.ref p3, rfl, .ref p6, rfl, two, plain⟩
  · refine ⟨.int c, rfl, c, 6, rfl, rfl, (by show (0 : Int) < 6; decide), rfl, _, rfl, ?_⟩
    refine ite2 (fun _ => ?_) (fun _ => ?_)
    · refine ⟨.ref a, rfl, .int b, rfl, a, ns, 13, b, rfl, e07.seq hs, hl, by decide, fun r1 ys1 fs1 H8 e8 h8 d8 g8 l8 => ?_⟩
      refine ⟨.ref a, rfl, .int b, rfl, a, ns, 19, b, rfl, (e07.trans e8).seq hs, hl, by decide, fun r2 ys2 fs2 H9 e9 h9 d9 g9 l9 => ?_⟩
      exact ⟨two, fun p np => q' r1 r2 p _ _ fs1 fs2 H9 (e07.trans (e8.trans e9)) (e9 _ _ h8) h9 (dpAll_same e9 _ _ d8) d9 g8 g9 (by omega) (by omega) np⟩
    · exact ⟨.ref p3, rfl, .ref p6, rfl, two, plain⟩
end
end Lm
set_option Elab.async false
set_option linter.all false
set_option maxRecDepth 100000
set_option maxHeartbeats 400000
namespace Lm
open PySem PySem.Spec PyProof.Rows L2
def Nev (d : PyData) : Prop := ∀ k, isF k d = false
theorem nev_sign {ds : List PyData} (h : sgOf ds = false) : Nev (.tuple (.str ("sign" : Str) :: ds)) := fun k => by
  cases k with
  | zero => rfl
  | succ k => rw [isF, if_pos rfl, h]
theorem nev_in {x : Str} {ds : List PyData} {y : PyData} (e : ¬ x = ("sign" : Str)) (hy : Nev y) (m : y ∈ ds) : Nev (.tuple (.str x :: ds)) := fun k => by
  cases k with
  | zero => rfl
  | succ k =>
    rw [isF, if_neg e]
    cases arOf x with
    | none => rfl
    | some z =>
      show (decide (((ds.length + 1 : Nat) : Int) = 1 + z) && _) = false
      have : (ds.map (isF k)).all id = false := by
        rw [List.all_eq_false]
        exact ⟨isF k y, List.mem_map_of_mem m, by rw [hy k]; decide⟩
      rw [this, Bool.and_false]
theorem nev_none : Nev .none := fun k => by cases k <;> rfl
theorem nev_int (i : Int) : Nev (.int i) := fun k => by cases k <;> rfl
theorem nev_list (ds : List PyData) : Nev (.list ds) := fun k => by cases k <;> rfl
theorem ne_not : ¬ ("not" : Str) = ("sign" : Str) := by decide +kernel
theorem okL_bad : ∀ (m : Nat) (ds : List PyData), (∃ d ∈ ds, isF 12 d = false) → okL m ds = false
  | m, [], h => by
    obtain ⟨d, hd, _⟩ := h
    cases hd
  | m, d :: ds, h => by
    rw [okL]
    obtain ⟨x, hx, hf⟩ := h
    rcases List.mem_cons.mp hx with rfl | hx
    · rw [hf, Bool.false_and]
    · rw [okL_bad _ ds ⟨x, hx, hf⟩, Bool.and_false, Bool.and_false]
def badsC : List PyData := [.tuple [.str ("sign" : Str), .int 100], .tuple [.str ("not" : Str), .int 5], .none, .list [.str ("sign" : Str), .int 1], .tuple [.str ("sign" : Str), .bool true]]
theorem badsC_nev : ∀ d ∈ badsC, isF 12 d = false := by
  intro d hd
  simp only [badsC, List.mem_cons, List.not_mem_nil, or_false] at hd
  rcases hd with rfl | rfl | rfl | rfl | rfl
  · exact nev_sign rfl 12
  · exact nev_in ne_not (nev_int 5) List.mem_cons_self 12
  · exact nev_none 12
  · exact nev_list _ 12
  · exact nev_sign rfl 12
theorem good_sg (n : Int) : 0 ≤ n % 100 ∧ n % 100 ≤ 99 := ⟨mod_lo n (by decide), by have := mod_hi n (by decide : (0 : Int) < 100); omega⟩
theorem rep_one (n : Nat) (v : V) : (List.replicate n [v]).flatten = List.replicate n v := by
  induction n with
  | zero => rfl
  | succ n ih => rw [List.replicate_succ, List.flatten_cons, ih, List.replicate_succ]; rfl
theorem fms_rep {K : PySem.W.Frag} {H : Hp} {v : V} {f : Fm} (h : Dp K H v f.toD) : ∀ n : Nat, DpAll K H (List.replicate n v) ((List.replicate n f).map Fm.toD)
  | 0 => .nil
  | n + 1 => .cons h (fms_rep h n)
theorem words_rep (f : Fm) (n : Nat) : wordsS (List.replicate n f) = n * f.size := by
  induction n with
  | zero => rw [Nat.zero_mul]; rfl
  | succ n ih =>
    show f.size + wordsS (List.replicate n f) = (n + 1) * f.size
    rw [ih, Nat.succ_mul, Nat.add_comm]
theorem words_app (L R : List Fm) : wordsS (L ++ R) = wordsS L + wordsS R := by unfold wordsS; rw [List.map_append, List.sum_append]
theorem gd_rep {f : Fm} (h : f.good) (k : f.dep ≤ 12) (n : Nat) : Gd (List.replicate n f) := fun g hg => by rw [List.eq_of_mem_replicate hg]; exact ⟨h, k⟩
def spWrong (K : PySem.W.Frag) : Sp := fun vs H Q _ => ∃ (a : Addr) (ns : List Int) (v : V) (L R : List Fm) (b : Int), vs = [.ref a, v, .int b] ∧ SqL K H a (ns.map V.int) ∧ ns.length ≤ 63 ∧ Dp K H v (cD L R) ∧ Gd2 L ∧ Gd2 R ∧ L.length ≤ 5 ∧ R.length ≤ 5 ∧
  ∀ (r : Addr) (x : V) (d : PyData) (H' : Hp), Same H H' → SqT K H' r [x, .bl (isC d)] → Dp K H' x d → short d → Q (.ref r) H'
section
variable {P : Program} {w : World} {K : PySem.W.Frag} {mg : Str → Option Value} {base : Heap} {f : Addr} {fd : FuncData}
theorem scWrong : FnScope ["_law_script", "_law_claim", "_law_base", "_law_cell", "_law_bad", "_law_left", "_law_right", "_law_many", "_law_one", "_law_side_here"] ["_law_script", "_law_claim", "_law_base"] (defScope sWrong) := ⟨rfl, rfl, rfl, by decide +kernel, rfl, by decide +kernel, by decide +kernel⟩
theorem ok_wrong (D : Df K mg "_law_wrong" sWrong ["_law_script", "_law_claim", "_law_base"] f fd) (B : Blt mg) (C : Has P w K mg base 1 "_law_cell_at" ["_law_script", "_law_k"] (spCellA K)) (F1 : Has P w K mg base 2 "_law_first" ["_law_script"] (spFirst K)) :
    FnOk P w K mg base CX0 3 f fd ["_law_script", "_law_claim", "_law_base"] (spWrong K) := by
  refine D.fn.ok scWrong (fun vs H Q E h => ?_) (fun cdv A outer s H vs Q E hr h => ?_)
  · obtain ⟨a, ns, v, L, R, b, rfl, _⟩ := h
    rfl
  obtain ⟨a, ns, v, L, R, b, rfl, hs, hl, hd, gL, gR, nL, nR, q⟩ := h
  have r1 : Room 1 (A.deeper (envOfC "_law_wrong" (defScope sWrong) s.heap.objs.size f cdv)) := hr.mono (by decide)
  refine ⟨_, pss_cons (ps_set (i := 3) scWrong.nd rfl (.inl rfl) (pe_op op_mod (pe_op op_mul (pe_op op_add (pe_callH C r1 (by rfl) (pa_cons (pv 0) (pa_cons pe_int pa_nil))) (pe_op op_mul (pe_op op_fdiv (pe_callH F1 hr (by rfl) (pa_cons (pv 0) pa_nil)) pe_int) pe_int)) pe_int) pe_int))
    (pss_cons (ps_set (i := 4) scWrong.nd rfl (.inl rfl) (pe_ix ix_list (pe_lst (pa_cons (pe_tup (pa_cons pe_str (pa_cons pe_int pa_nil))) (pa_cons (pe_tup (pa_cons pe_str (pa_cons pe_int pa_nil))) (pa_cons pe_non (pa_cons (pe_lst (pa_cons pe_str (pa_cons pe_int pa_nil))) (pa_cons (pe_tup (pa_cons pe_str (pa_cons pe_bl pa_nil))) pa_nil)))))) (pe_op op_mod (pe_op op_fdiv (pv 3) pe_int) pe_int) (fun _ _ => rfl)))
    (pss_cons (ps_set (i := 5) scWrong.nd rfl (.inl rfl) (pe_callTy call_list_of (by rfl) B.list bt_list (pa_cons (pe_ix ix_tup (pv 1) pe_int (fun _ _ => rfl)) pa_nil)))
    (pss_cons (ps_set (i := 6) scWrong.nd rfl (.inl rfl) (pe_callTy call_list_of (by rfl) B.list bt_list (pa_cons (pe_ix ix_tup (pv 1) pe_int (fun _ _ => rfl)) pa_nil)))
    (pss_cons (ps_if (pt_cmpR op_eq (pe_op op_mod (pv 3) pe_int) pe_int (nomark _)) (pss_one (ps_ret (pe_tup (pa_cons (pe_lst (pa_cons (pv 5) (pa_cons (pv 6) pa_nil))) (pa_cons pe_bl pa_nil))))) pss_nil)
    (pss_cons (ps_if (pt_cmpR op_eq (pe_op op_mod (pv 3) pe_int) pe_int (nomark _)) (pss_one (ps_ret (pe_tup (pa_cons (pe_tup (pa_cons (pv 5) (pa_cons (pv 6) (pa_cons (pe_lst pa_nil) pa_nil)))) (pa_cons pe_bl pa_nil))))) pss_nil)
    (pss_cons (ps_if (pt_cmpR op_eq (pe_op op_mod (pv 3) pe_int) pe_int (nomark _)) (pss_one (ps_ret (pe_tup (pa_cons (pe_tup (pa_cons (pe_callTy call_tuple_of (by rfl) B.tuple bt_tuple (pa_cons (pv 5) pa_nil)) (pa_cons (pv 6) pa_nil))) (pa_cons pe_bl pa_nil))))) pss_nil)
    (pss_cons (ps_if (pt_cmpR op_eq (pe_op op_mod (pv 3) pe_int) pe_int (nomark _)) (pss_one (ps_ret (pe_tup (pa_cons (pe_tup (pa_cons (pv 5) (pa_cons (pe_callTy call_tuple_of (by rfl) B.tuple bt_tuple (pa_cons (pv 6) pa_nil)) pa_nil))) (pa_cons pe_bl pa_nil))))) pss_nil)
    (pss_cons (ps_if (pt_cmpR op_eq (pe_op op_mod (pv 3) pe_int) pe_int (nomark _)) (pss_cons (ps_expr (pe_bm PySem.F.plainAttrs_list PySem.F.slot_list_insert PySem.F.type_list_insert mt_insert (pv 5) (pa_cons (pe_op op_mod (pe_op op_fdiv (pv 3) pe_int) (pe_op op_add (pe_callB call_len_seq (by rfl) B.len PySem.boot_len (pa_cons (pv 5) pa_nil)) pe_int)) (pa_cons (pv 4) pa_nil))))
        (pss_one (ps_ret (pe_tup (pa_cons (pe_tup (pa_cons (pv 5) (pa_cons (pv 6) pa_nil))) (pa_cons pe_bl pa_nil)))))) pss_nil)
    (pss_cons (ps_if (pt_cmpR op_eq (pe_op op_mod (pv 3) pe_int) pe_int (nomark _)) (pss_cons (ps_expr (pe_bm PySem.F.plainAttrs_list PySem.F.slot_list_insert PySem.F.type_list_insert mt_insert (pv 6) (pa_cons (pe_op op_mod (pe_op op_fdiv (pv 3) pe_int) (pe_op op_add (pe_callB call_len_seq (by rfl) B.len PySem.boot_len (pa_cons (pv 6) pa_nil)) pe_int)) (pa_cons (pv 4) pa_nil))))
        (pss_one (ps_ret (pe_tup (pa_cons (pe_tup (pa_cons (pv 5) (pa_cons (pv 6) pa_nil))) (pa_cons pe_bl pa_nil)))))) pss_nil)
    (pss_cons (ps_set (i := 7) scWrong.nd rfl (.inl rfl) (pe_op op_add pe_int (pe_op op_mod (pe_op op_fdiv (pv 3) pe_int) pe_int)))
    (pss_cons (ps_set (i := 8) scWrong.nd rfl (.inl rfl) (pe_op op_mod (pe_op op_fdiv (pv 3) pe_int) pe_int))
    (pss_cons (ps_set (i := 9) scWrong.nd rfl (.inl rfl) (pe_op op_cat (pe_op op_rep (pe_lst (pa_cons (pe_tup (pa_cons pe_str (pa_cons (pe_tup (pa_cons pe_str (pa_cons (pe_op op_mod (pv 2) pe_int) pa_nil))) pa_nil))) pa_nil)) (pe_op op_fdiv (pv 8) pe_int))
        (pe_op op_rep (pe_lst (pa_cons (pe_tup (pa_cons pe_str (pa_cons (pe_op op_mod (pv 2) pe_int) pa_nil))) pa_nil)) (pe_op op_mod (pv 8) pe_int))))
    (pss_one (ps_ret (pe_tup (pa_cons (pe_tup (pa_cons (pv 9) (pa_cons (pe_op op_rep (pe_lst (pa_cons (pe_tup (pa_cons pe_str (pa_cons (pe_op op_mod (pe_op op_add (pv 2) pe_int) pe_int) pa_nil))) pa_nil)) (pe_op op_sub (pv 7) (pv 8))) pa_nil))) (pa_cons (pe_cmpR op_eq (pv 7) pe_int (nomark _)) pa_nil))))))))))))))))), ?_⟩
  have two : 2 ≤ sizeLine := sl1000 (by decide)
  have one1 : 1 ≤ sizeLine := sl1000 (by decide)
  have fin : ∀ (x : V) (d : PyData) (good : Bool) (H' : Hp), Same H H' → Dp K H' x d → short d → isC d = good → ∀ p, H' p = none → Q (.ref p) (upd H' p (.tup [x, .bl good])) := fun x d good H' e hx hsh hg p np => by
    subst hg
    exact q p x d _ (e.trans (same_new np _)) (SqT.of upd_same) (dp_same (same_new np _) _ _ hx) hsh
  have sh : ∀ (ds es : List PyData), ds.length + es.length ≤ 1000 → short (.tuple [.list ds, .list es]) := fun ds es h => h
  refine ⟨.ref a, rfl, a, ns, 1, rfl, hs, hl, by decide, fun z1 => ?_⟩
  refine ⟨.ref a, rfl, a, ns, rfl, hs, hl, fun z2 => ⟨z2, 2400, rfl, rfl, ⟨by decide, by decide⟩, z2 / 2400, 7919, rfl, rfl, .inr ⟨by decide, by decide⟩, z1, _, rfl, rfl, _, 48271, rfl, rfl, .inr ⟨by decide, by decide⟩, _, 1000003, rfl, rfl, (by show (0 : Int) < 1000003; decide), ?_⟩⟩
  have c0 := mod_lo ((z1 + z2 / 2400 * 7919) * 48271) (by decide : (0 : Int) < 1000003)
  have c1 := mod_hi ((z1 + z2 / 2400 * 7919) * 48271) (by decide : (0 : Int) < 1000003)
  dsimp only [tNext, tSeq, tAsg, tOp, gName]
  generalize (z1 + z2 / 2400 * 7919) * 48271 % 1000003 = c at c0 c1 ⊢
  -- what is no formula
  refine gl_at (K := K) (ds := badsC) (gv_cons (gv_tup (gv_cons (gv_str _) (gv_cons (gv_int _) gv_nil)) (by show 2 ≤ 1000; decide)) (gv_cons (gv_tup (gv_cons (gv_str _) (gv_cons (gv_int _) gv_nil)) (by show 2 ≤ 1000; decide)) (gv_cons gv_non (gv_cons (gv_lst (gv_cons (gv_str _) (gv_cons (gv_int _) gv_nil)) (by show 2 ≤ 1000; decide)) (gv_cons (gv_tup (gv_cons (gv_str _) (gv_cons (gv_bl _) gv_nil)) (by show 2 ≤ 1000; decide)) gv_nil))))) (by show 5 ≤ 1000; decide) fun p0 vs0 Hb eb hb0 db0 lb => ?_
  have lb' : vs0.length = 5 := lb
  obtain ⟨u, hu, eu⟩ := at_any (zs := vs0) (mod_lo (c / 8) (by decide : (0 : Int) < 5)) (by have := mod_hi (c / 8) (by decide : (0 : Int) < 5); omega)
  obtain ⟨j0, hj⟩ := List.getElem?_of_mem hu
  obtain ⟨y, hy, hub⟩ := dpAll_get db0 hj
  have ybad := badsC_nev y (List.mem_of_getElem? hy)
  refine ⟨.int c, rfl, c, 8, rfl, rfl, ⟨by decide, by decide⟩, c / 8, 5, rfl, rfl, (by show (0 : Int) < 5; decide), p0, vs0, _, u, rfl, rfl, SqL.of hb0, eu, ?_⟩
  obtain ⟨ac, b1, b2, xs, zs, rfl, ht, hb, hc, db, dc⟩ := dp_claim hd
  have n1 := dpAll_len db
  have n2 := dpAll_len dc
  rw [List.length_map] at n1 n2
  refine ⟨.ref ac, rfl, ac, _, 0, _, rfl, rfl, sqT_same eb ht, at0 _ _, b1, xs, rfl, .inl (eb.seq hb), fun p1 np1 => ?_⟩
  have s1 := same_new np1 (HO.lst xs)
  refine ⟨.ref ac, rfl, ac, _, 1, _, rfl, rfl, sqT_same (eb.trans s1) ht, at1 _ _ _, b2, zs, rfl, .inl ((eb.trans s1).seq hc), fun p2 np2 => ?_⟩
  have s2 := same_new np2 (HO.lst zs)
  have np2b : Hb p2 = none := by
    cases z : Hb p2 with
    | none => rfl
    | some o => exact absurd (s1 _ _ z) (by rw [np2]; exact fun y => nomatch y)
  have s12 := s1.trans s2
  have e4 := eb.trans s12
  have h1 := s2 _ _ (@upd_same Hb p1 (HO.lst xs))
  have h2 := @upd_same (upd Hb p1 (HO.lst xs)) p2 (HO.lst zs)
  have ne12 : p1 ≠ p2 := fun z => by
    have y := np2
    rw [← z, upd_same] at y
    cases y
  generalize upd (upd Hb p1 (HO.lst xs)) p2 (HO.lst zs) = H4 at s12 e4 h1 h2 ⊢
  have d1 := dpAll_same e4 _ _ db
  have d2 := dpAll_same e4 _ _ dc
  have gl := gL.gd
  have gr := gR.gd
  have bothL : ∀ {H' : Hp}, Same H4 H' → Dp K H' (.ref p1) (.list (L.map Fm.toD)) := fun {H'} e => .lst (SqL.of (e _ _ h1)) (dpAll_same e _ _ d1)
  have bothR : ∀ {H' : Hp}, Same H4 H' → Dp K H' (.ref p2) (.list (R.map Fm.toD)) := fun {H'} e => .lst (SqL.of (e _ _ h2)) (dpAll_same e _ _ d2)
  -- no tuple
  refine ⟨.int c, rfl, c, 8, rfl, rfl, (by show (0 : Int) < 8; decide), rfl, _, rfl, ?_⟩
  refine ite2 (fun _ => ?_) (fun _ => ?_)
  · refine ⟨.ref p1, rfl, .ref p2, rfl, two, fun p np => ⟨two, ?_⟩⟩
    have s := same_new np (HO.lst [V.ref p1, V.ref p2])
    exact fin (.ref p) (.list [.list (L.map Fm.toD), .list (R.map Fm.toD)]) false _ (e4.trans s) (.lst (SqL.of upd_same) (.cons (bothL s) (.cons (bothR s) .nil))) trivial rfl
  -- three sides
  refine ⟨.int c, rfl, c, 8, rfl, rfl, (by show (0 : Int) < 8; decide), rfl, _, rfl, ?_⟩
  refine ite2 (fun _ => ?_) (fun _ => ?_)
  · refine ⟨.ref p1, rfl, .ref p2, rfl, Nat.zero_le _, fun p8 np8 => ⟨(by show 3 ≤ sizeLine; exact sl1000 (by decide)), fun p np => ⟨two, ?_⟩⟩⟩
    have s8 := same_new np8 (HO.lst [])
    have s := same_new np (HO.tup [V.ref p1, V.ref p2, V.ref p8])
    exact fin (.ref p) (.tuple [.list (L.map Fm.toD), .list (R.map Fm.toD), .list []]) false _ (e4.trans (s8.trans s)) (.tup (SqT.of upd_same) (.cons (bothL (s8.trans s)) (.cons (bothR (s8.trans s)) (.cons (.lst (SqL.of (s _ _ upd_same)) .nil) .nil)))) trivial (isC_len (by show ¬ 3 = 2; decide))
  -- a tuple on the left
  refine ⟨.int c, rfl, c, 8, rfl, rfl, (by show (0 : Int) < 8; decide), rfl, _, rfl, ?_⟩
  refine ite2 (fun _ => ?_) (fun _ => ?_)
  · refine ⟨.ref p1, rfl, p1, xs, rfl, .inl ⟨SqL.of h1, fun p8 np8 => ⟨.ref p2, rfl, two, fun p np => ⟨two, ?_⟩⟩⟩⟩
    have s8 := same_new np8 (HO.tup xs)
    have s := same_new np (HO.tup [V.ref p8, V.ref p2])
    exact fin (.ref p) (.tuple [.tuple (L.map Fm.toD), .list (R.map Fm.toD)]) false _ (e4.trans (s8.trans s)) (.tup (SqT.of upd_same) (.cons (.tup (SqT.of (s _ _ upd_same)) (dpAll_same (s8.trans s) _ _ d1)) (.cons (bothR (s8.trans s)) .nil))) trivial rfl
  -- .. on the right
  refine ⟨.int c, rfl, c, 8, rfl, rfl, (by show (0 : Int) < 8; decide), rfl, _, rfl, ?_⟩
  refine ite2 (fun _ => ?_) (fun _ => ?_)
  · refine ⟨.ref p1, rfl, .ref p2, rfl, p2, zs, rfl, .inl ⟨SqL.of h2, fun p8 np8 => ⟨two, fun p np => ⟨two, ?_⟩⟩⟩⟩
    have s8 := same_new np8 (HO.tup zs)
    have s := same_new np (HO.tup [V.ref p1, V.ref p8])
    exact fin (.ref p) (.tuple [.list (L.map Fm.toD), .tuple (R.map Fm.toD)]) false _ (e4.trans (s8.trans s)) (.tup (SqT.of upd_same) (.cons (bothL (s8.trans s)) (.cons (.tup (SqT.of (s _ _ upd_same)) (dpAll_same (s8.trans s) _ _ d2)) .nil))) trivial rfl
  have put : ∀ (k : Nat) {H' : Hp} {ws : List V} {fs : List Fm}, Same Hb H' → DpAll K H' ws (fs.map Fm.toD) → DpAll K H' (ws.take k ++ [u] ++ ws.drop k) (((fs.take k).map Fm.toD ++ [y]) ++ (fs.drop k).map Fm.toD) := fun k {H' ws fs} e h =>
    dpAll_app (dpAll_app (fms_take k h) (.cons (dp_same e _ _ hub) .nil)) (fms_drop k h)
  have putLen : ∀ (k : Nat) (fs : List Fm), (((fs.take k).map Fm.toD ++ [y]) ++ (fs.drop k).map Fm.toD).length ≤ fs.length + 1 := fun k fs => by
    rw [List.length_append, List.length_append, List.length_map, List.length_map, List.length_take, List.length_drop]
    show min k fs.length + 1 + (fs.length - k) ≤ fs.length + 1
    omega
  -- no formula on the left
  refine ⟨.int c, rfl, c, 8, rfl, rfl, (by show (0 : Int) < 8; decide), rfl, _, rfl, ?_⟩
  refine ite2 (fun _ => ?_) (fun _ => ?_)
  · have lo := mod_lo (c / 40) (show (0 : Int) < ((xs.length : Nat) : Int) + 1 by omega)
    have hi := mod_hi (c / 40) (show (0 : Int) < ((xs.length : Nat) : Int) + 1 by omega)
    refine ⟨.ref p1, rfl, .inl ⟨rfl, _, SqL.of h1⟩, .int c, rfl, c, 40, rfl, rfl, ⟨by decide, by decide⟩, .ref p1, rfl, p1, xs, rfl, .inl (SqL.of h1), ((xs.length : Nat) : Int), 1, rfl, rfl, c / 40, ((xs.length : Nat) : Int) + 1, rfl, rfl, (by show (0 : Int) < ((xs.length : Nat) : Int) + 1; omega), u, rfl, p1, xs, _, u, rfl, rfl, h1, sl1001 (by omega), lo, by omega, ?_⟩
    have eL : Same Hb (upd H4 p1 (.lst (xs.take (c / 40 % (((xs.length : Nat) : Int) + 1)).toNat ++ [u] ++ xs.drop (c / 40 % (((xs.length : Nat) : Int) + 1)).toNat))) := same_upd s12 np1
    refine ⟨.ref p1, rfl, .ref p2, rfl, two, fun p np => ⟨two, ?_⟩⟩
    have s := same_new np (HO.tup [V.ref p1, V.ref p2])
    have eLs := eL.trans s
    refine fin (.ref p) (.tuple [.list (((L.take (c / 40 % (((xs.length : Nat) : Int) + 1)).toNat).map Fm.toD ++ [y]) ++ (L.drop (c / 40 % (((xs.length : Nat) : Int) + 1)).toNat).map Fm.toD), .list (R.map Fm.toD)]) false _ (eb.trans eLs) (.tup (SqT.of upd_same) (.cons (.lst (SqL.of (s _ _ upd_same)) (put _ eLs (dpAll_same (eb.trans eLs) _ _ db))) (.cons (.lst (SqL.of (s _ _ ((But.upd p1 H4 _) _ _ h2 (Ne.symm ne12)))) (dpAll_same (eb.trans eLs) _ _ dc)) .nil))) ?_ ?_
    · refine sh _ _ ?_
      have := putLen (c / 40 % (((xs.length : Nat) : Int) + 1)).toNat L
      rw [List.length_map]
      omega
    · exact okL_bad 0 _ ⟨y, List.mem_append_left _ (List.mem_append_left _ (List.mem_append_right _ List.mem_cons_self)), ybad⟩
  -- .. on the right
  refine ⟨.int c, rfl, c, 8, rfl, rfl, (by show (0 : Int) < 8; decide), rfl, _, rfl, ?_⟩
  refine ite2 (fun _ => ?_) (fun _ => ?_)
  · have lo := mod_lo (c / 40) (show (0 : Int) < ((zs.length : Nat) : Int) + 1 by omega)
    have hi := mod_hi (c / 40) (show (0 : Int) < ((zs.length : Nat) : Int) + 1 by omega)
    refine ⟨.ref p2, rfl, .inl ⟨rfl, _, SqL.of h2⟩, .int c, rfl, c, 40, rfl, rfl, ⟨by decide, by decide⟩, .ref p2, rfl, p2, zs, rfl, .inl (SqL.of h2), ((zs.length : Nat) : Int), 1, rfl, rfl, c / 40, ((zs.length : Nat) : Int) + 1, rfl, rfl, (by show (0 : Int) < ((zs.length : Nat) : Int) + 1; omega), u, rfl, p2, zs, _, u, rfl, rfl, h2, sl1001 (by omega), lo, by omega, ?_⟩
    have eL : Same Hb (upd H4 p2 (.lst (zs.take (c / 40 % (((zs.length : Nat) : Int) + 1)).toNat ++ [u] ++ zs.drop (c / 40 % (((zs.length : Nat) : Int) + 1)).toNat))) := same_upd s12 np2b
    refine ⟨.ref p1, rfl, .ref p2, rfl, two, fun p np => ⟨two, ?_⟩⟩
    have s := same_new np (HO.tup [V.ref p1, V.ref p2])
    have eLs := eL.trans s
    refine fin (.ref p) (.tuple [.list (L.map Fm.toD), .list (((R.take (c / 40 % (((zs.length : Nat) : Int) + 1)).toNat).map Fm.toD ++ [y]) ++ (R.drop (c / 40 % (((zs.length : Nat) : Int) + 1)).toNat).map Fm.toD)]) false _ (eb.trans eLs) (.tup (SqT.of upd_same) (.cons (.lst (SqL.of (s _ _ ((But.upd p2 H4 _) _ _ h1 ne12))) (dpAll_same (eb.trans eLs) _ _ db)) (.cons (.lst (SqL.of (s _ _ upd_same)) (put _ eLs (dpAll_same (eb.trans eLs) _ _ dc))) .nil))) ?_ ?_
    · refine sh _ _ ?_
      have := putLen (c / 40 % (((zs.length : Nat) : Int) + 1)).toNat R
      rw [List.length_map]
      omega
    · exact okL_bad 0 _ ⟨y, List.mem_append_right _ (List.mem_append_left _ (List.mem_append_right _ List.mem_cons_self)), ybad⟩
  -- sixty words, or one more
  obtain ⟨n, nn, en⟩ := two_of (c / 8)
  have o0 := mod_lo (c / 16) (by decide : (0 : Int) < 60)
  have o1 := mod_hi (c / 16) (by decide : (0 : Int) < 60)
  refine ⟨.int c, rfl, c, 8, rfl, rfl, ⟨by decide, by decide⟩, c / 8, 2, rfl, rfl, (by show (0 : Int) < 2; decide), 60, c / 8 % 2, rfl, rfl, ?_⟩
  refine ⟨.int c, rfl, c, 16, rfl, rfl, ⟨by decide, by decide⟩, c / 16, 60, rfl, rfl, (by show (0 : Int) < 60; decide), ?_⟩
  dsimp only
  rw [en]
  generalize c / 16 % 60 = o at o0 o1 ⊢
  have gb := good_sg b
  have gb2 := good_sg (b + 50)
  have h0 := mod_lo o (by decide : (0 : Int) < 2)
  have h01 := mod_hi o (by decide : (0 : Int) < 2)
  refine ⟨.int b, rfl, b, 100, rfl, rfl, (by show (0 : Int) < 100; decide), two, fun q1 nq1 => ⟨two, fun q2 nq2 => ⟨one1, fun q3 nq3 => ⟨.int o, rfl, o, 2, rfl, rfl, ⟨by decide, by decide⟩, q3, o / 2, [.ref q2], rfl, rfl, upd_same, by omega, by omega, sl1000 (by show 1 * (o / 2).toNat ≤ 100000; omega), fun q4 nq4 => ?_⟩⟩⟩⟩
  rw [rep_one]
  refine ⟨.int b, rfl, b, 100, rfl, rfl, (by show (0 : Int) < 100; decide), two, fun q5 nq5 => ⟨one1, fun q6 nq6 => ⟨.int o, rfl, o, 2, rfl, rfl, (by show (0 : Int) < 2; decide), q6, o % 2, [.ref q5], rfl, rfl, upd_same, by omega, by omega, sl1000 (by show 1 * (o % 2).toNat ≤ 100000; omega), fun q7 nq7 => ?_⟩⟩⟩
  rw [rep_one]
  have t1 := same_new nq1 (HO.tup [V.str ("sign" : Str), V.int (b % 100)])
  have t2 := same_new nq2 (HO.tup [V.str ("not" : Str), V.ref q1])
  have t3 := same_new nq3 (HO.lst [V.ref q2])
  have t4 := same_new nq4 (HO.lst (List.replicate (o / 2).toNat (V.ref q2)))
  have t5 := same_new nq5 (HO.tup [V.str ("sign" : Str), V.int (b % 100)])
  have t6 := same_new nq6 (HO.lst [V.ref q5])
  have t7 := same_new nq7 (HO.lst (List.replicate (o % 2).toNat (V.ref q5)))
  have t57 := t5.trans (t6.trans t7)
  have lr : (List.replicate (o / 2).toNat (V.ref q2)).length + (List.replicate (o % 2).toNat (V.ref q5)).length ≤ 100 := by rw [List.length_replicate, List.length_replicate]; omega
  refine ⟨q4, q7, _, _, rfl, rfl, t57 _ _ upd_same, upd_same, sl1000 (by omega), fun q8 nq8 => ?_⟩
  have t8 := same_new nq8 (HO.lst (List.replicate (o / 2).toNat (V.ref q2) ++ List.replicate (o % 2).toNat (V.ref q5)))
  have t48 := t57.trans t8
  have t14 := t1.trans (t2.trans (t3.trans t4))
  have e8 := e4.trans (t14.trans t48)
  have f2' := dp_same (K := K) (t3.trans (t4.trans t48)) (Fm.no (.sg (b % 100))).toD (.ref q2) (mk_no (SqT.of upd_same) (dp_same t2 (Fm.sg (b % 100)).toD (.ref q1) (mk_sg (SqT.of upd_same))))
  have f5' := dp_same (K := K) (t6.trans (t7.trans t8)) (Fm.sg (b % 100)).toD (.ref q5) (mk_sg (SqT.of upd_same))
  have d8 := fms_app (fms_rep f2' (o / 2).toNat) (fms_rep f5' (o % 2).toNat)
  have h8 := @upd_same (upd (upd (upd (upd (upd (upd (upd H4 q1 (HO.tup [V.str ("sign" : Str), V.int (b % 100)])) q2 (HO.tup [V.str ("not" : Str), V.ref q1])) q3 (HO.lst [V.ref q2])) q4 (HO.lst (List.replicate (o / 2).toNat (V.ref q2)))) q5 (HO.tup [V.str ("sign" : Str), V.int (b % 100)])) q6 (HO.lst [V.ref q5])) q7 (HO.lst (List.replicate (o % 2).toNat (V.ref q5)))) q8 (HO.lst (List.replicate (o / 2).toNat (V.ref q2) ++ List.replicate (o % 2).toNat (V.ref q5)))
  generalize upd (upd (upd (upd (upd (upd (upd (upd H4 q1 (HO.tup [V.str ("sign" : Str), V.int (b % 100)])) q2 (HO.tup [V.str ("not" : Str), V.ref q1])) q3 (HO.lst [V.ref q2])) q4 (HO.lst (List.replicate (o / 2).toNat (V.ref q2)))) q5 (HO.tup [V.str ("sign" : Str), V.int (b % 100)])) q6 (HO.lst [V.ref q5])) q7 (HO.lst (List.replicate (o % 2).toNat (V.ref q5)))) q8 (HO.lst (List.replicate (o / 2).toNat (V.ref q2) ++ List.replicate (o % 2).toNat (V.ref q5))) = H8 at e8 d8 h8 ⊢
  have g8 : Gd (List.replicate (o / 2).toNat (Fm.no (.sg (b % 100))) ++ List.replicate (o % 2).toNat (Fm.sg (b % 100))) := fun k hk => (List.mem_append.mp hk).elim (gd_rep (f := .no (.sg (b % 100))) gb (by show 2 ≤ 12; decide) _ k) (gd_rep (f := .sg (b % 100)) gb (by show 1 ≤ 12; decide) _ k)
  have w8 : wordsS (List.replicate (o / 2).toNat (Fm.no (.sg (b % 100))) ++ List.replicate (o % 2).toNat (Fm.sg (b % 100))) = o.toNat := by
    rw [words_app, words_rep, words_rep]
    show (o / 2).toNat * 2 + (o % 2).toNat * 1 = o.toNat
    omega
  generalize List.replicate (o / 2).toNat (Fm.no (.sg (b % 100))) ++ List.replicate (o % 2).toNat (Fm.sg (b % 100)) = L8 at d8 g8 w8
  refine ⟨.ref q8, rfl, .int b, rfl, b, 50, rfl, rfl, b + 50, 100, rfl, rfl, (by show (0 : Int) < 100; decide), two, fun q9 nq9 => ⟨one1, fun q10 nq10 => ⟨.int (60 + (n : Int)), rfl, .int o, rfl, 60 + (n : Int), o, rfl, rfl, q10, 60 + (n : Int) - o, [.ref q9], rfl, rfl, upd_same, by omega, by omega, sl1000 (by show 1 * (60 + (n : Int) - o).toNat ≤ 100000; omega), fun q11 nq11 => ?_⟩⟩⟩
  rw [rep_one]
  have t9 := same_new nq9 (HO.tup [V.str ("sign" : Str), V.int ((b + 50) % 100)])
  have t10 := same_new nq10 (HO.lst [V.ref q9])
  have t11 := same_new nq11 (HO.lst (List.replicate (60 + (n : Int) - o).toNat (V.ref q9)))
  refine ⟨two, fun p np => ⟨.int (60 + (n : Int)), rfl, rfl, two, ?_⟩⟩
  have s := same_new np (HO.tup [V.ref q8, V.ref q11])
  have t9s := t9.trans (t10.trans (t11.trans s))
  have wr : wordsS (List.replicate (60 + (n : Int) - o).toNat (Fm.sg ((b + 50) % 100))) = (60 + (n : Int) - o).toNat := by
    rw [words_rep]
    show _ * 1 = _
    omega
  have gr : Gd (List.replicate (60 + (n : Int) - o).toNat (Fm.sg ((b + 50) % 100))) := gd_rep (f := .sg ((b + 50) % 100)) gb2 (by show 1 ≤ 12; decide) _
  have lw := words_len L8
  refine fin (.ref p) (cD L8 (List.replicate (60 + (n : Int) - o).toNat (Fm.sg ((b + 50) % 100)))) _ _ (e8.trans t9s) (mk_cD (SqT.of upd_same) (SqL.of (t9s _ _ h8)) (SqL.of (s _ _ upd_same)) (dpAll_same t9s _ _ d8) (fms_rep (dp_same (t10.trans (t11.trans s)) (Fm.sg ((b + 50) % 100)).toD (.ref q9) (mk_sg (SqT.of upd_same))) _)) ?_ ?_
  · refine sh _ _ ?_
    rw [List.length_map, List.length_map, List.length_replicate]
    omega
  · rw [isC_cD g8 gr, w8, wr]
    by_cases z : (n : Int) = 0
    · rw [decide_eq_true (by omega)]
      exact (decide_eq_true (by rw [z]; rfl)).symm
    · rw [decide_eq_false (by omega)]
      exact (decide_eq_false (fun y => z (by have := V.int.inj y; omega))).symm
end
end Lm
set_option Elab.async false
set_option linter.all false
set_option maxRecDepth 100000
set_option maxHeartbeats 400000
namespace Lm
open PySem PySem.Spec PyProof.Rows L2
theorem toD_inj : ∀ {f g : Fm}, f.toD = g.toD → f = g
  | .sg i, .sg j, h => by
    have h : PyData.tuple [.str ("sign" : Str), .int i] = .tuple [.str ("sign" : Str), .int j] := h
    cases h
    rfl
  | .sg i, .no f, h => by
    have h : PyData.tuple [.str ("sign" : Str), .int i] = .tuple [.str ("not" : Str), f.toD] := h
    injection h with h
    injection h with h1 h2
    injection h1 with h1
    exact absurd h1.symm ne_not
  | .sg i, .bi w f g, h => by
    have h : PyData.tuple [.str ("sign" : Str), .int i] = .tuple [.str w.txt, f.toD, g.toD] := h
    injection h with h
    injection h with h1 h2
    injection h1 with h1
    exact absurd h1.symm (txt_sign w)
  | .no f, .sg i, h => by
    have h : PyData.tuple [.str ("not" : Str), f.toD] = .tuple [.str ("sign" : Str), .int i] := h
    injection h with h
    injection h with h1 h2
    injection h1 with h1
    exact absurd h1 ne_not
  | .no f, .no g, h => by
    have h : PyData.tuple [.str ("not" : Str), f.toD] = .tuple [.str ("not" : Str), g.toD] := h
    injection h with h
    injection h with h1 h2
    injection h2 with h2
    rw [toD_inj h2]
  | .no f, .bi w g k, h => by
    have h : PyData.tuple [.str ("not" : Str), f.toD] = .tuple [.str w.txt, g.toD, k.toD] := h
    injection h with h
    injection h with h1 h2
    injection h2 with h2 h3
    cases h3
  | .bi w f g, .sg i, h => by
    have h : PyData.tuple [.str w.txt, f.toD, g.toD] = .tuple [.str ("sign" : Str), .int i] := h
    injection h with h
    injection h with h1 h2
    injection h1 with h1
    exact absurd h1 (txt_sign w)
  | .bi w f g, .no k, h => by
    have h : PyData.tuple [.str w.txt, f.toD, g.toD] = .tuple [.str ("not" : Str), k.toD] := h
    injection h with h
    injection h with h1 h2
    injection h2 with h2 h3
    cases h3
  | .bi w f g, .bi w' f' g', h => by
    have h : PyData.tuple [.str w.txt, f.toD, g.toD] = .tuple [.str w'.txt, f'.toD, g'.toD] := h
    injection h with h
    injection h with h1 h2
    injection h1 with h1
    injection h2 with h2 h3
    injection h3 with h3 _
    have ew : w = w' := by
      cases w <;> cases w' <;> first | rfl | exact absurd h1 (by decide +kernel)
    rw [ew, toD_inj h2, toD_inj h3]
theorem map_toD_inj : ∀ {L L' : List Fm}, L.map Fm.toD = L'.map Fm.toD → L = L'
  | [], [], _ => rfl
  | [], _ :: _, h => nomatch h
  | _ :: _, [], h => nomatch h
  | f :: L, g :: L', h => by
    injection h with h1 h2
    rw [toD_inj h1, map_toD_inj h2]
theorem cD_inj {L R L' R' : List Fm} (h : cD L R = cD L' R') : L = L' ∧ R = R' := by
  have h : PyData.tuple [.list (L.map Fm.toD), .list (R.map Fm.toD)] = .tuple [.list (L'.map Fm.toD), .list (R'.map Fm.toD)] := h
  injection h with h
  injection h with h1 h2
  injection h1 with h1
  injection h2 with h2 _
  injection h2 with h2
  exact ⟨map_toD_inj h1, map_toD_inj h2⟩
theorem isC_good {L R : List Fm} (gl : Gd L) (gr : Gd R) (h : wordsS L + wordsS R ≤ 60) : isC (cD L R) = true := (isC_cD gl gr).trans (decide_eq_true h)
def spAlike0 (K : PySem.W.Frag) : Sp := fun vs H Q _ => ∃ (v u : V) (L R L' R' : List Fm), vs = [v, u] ∧ Dp K H v (cD L R) ∧ Dp K H u (cD L' R') ∧ Gd L ∧ Gd R ∧ Gd L' ∧ Gd R' ∧ wordsS L + wordsS R ≤ 60 ∧ wordsS L' + wordsS R' ≤ 60 ∧ ∀ (c : Bool) (H' : Hp), (c = true ↔ SameF L L' ∧ SameF R R') → Same H H' → Q (.bl c) H'
def spHolds0 (K : PySem.W.Frag) : Sp := fun vs H Q _ => ∃ (v : V) (L R : List Fm) (a : Addr) (ns : List Int), vs = [v, .ref a] ∧ Dp K H v (cD L R) ∧ Gd L ∧ Gd R ∧ wordsS L + wordsS R ≤ 60 ∧ SqL K H a (ns.map V.int) ∧ ns.length ≤ 1000 ∧
  ∀ H', Same H H' → Q (.bl (!(L.all fun f => f.tr fun i => decide (i ∈ ns)) || R.any fun f => f.tr fun i => decide (i ∈ ns))) H'
section
variable {P : Program} {w : World} {K : PySem.W.Frag} {mg : Str → Option Value} {base : Heap} {f : Addr} {fd : FuncData}
theorem calm_alike {C0 : Addr} (h : HasN P w K mg base 19 "alike" ["one", "other"] (spAlike K C0)) : Has P w K mg base 19 "alike" ["one", "other"] (spAlike0 K) :=
  h.calm fun vs H Q E ⟨v, u, L, R, L', R', e, hd, he, g1, g2, g3, g4, w1, w2, q⟩ => ⟨v, u, cD L R, cD L' R', e, hd, he, short_cD w1, short_cD w2, fun _ _ A B A' B' e1 e2 _ _ _ _ c H' hc eH => by
    obtain ⟨rfl, rfl⟩ := cD_inj e1
    obtain ⟨rfl, rfl⟩ := cD_inj e2
    exact q c H' hc eH, fun no => by
    rw [isC_good g1 g2 w1, isC_good g3 g4 w2] at no
    cases no⟩
theorem calm_holds {C0 : Addr} (h : HasN P w K mg base 19 "holds" ["claim", "world"] (spHolds K C0)) : Has P w K mg base 19 "holds" ["claim", "world"] (spHolds0 K) :=
  h.calm fun vs H Q E ⟨v, L, R, a, ns, e, hd, g1, g2, w1, hs, hl, q⟩ => ⟨v, cD L R, a, ns, e, hd, short_cD w1, hs, hl, fun _ A B e1 _ _ H' eH => by
    obtain ⟨rfl, rfl⟩ := cD_inj e1
    exact q H' eH, fun no => by
    rw [isC_good g1 g2 w1] at no
    cases no⟩
theorem calm_truth {C0 : Addr} (h : HasN P w K mg base 18 "truth" ["f", "world"] (spTruthN K C0)) : Has P w K mg base 18 "truth" ["f", "world"] (spTruth K) :=
  h.calm fun vs H Q E ⟨v, g, a, ns, e, hd, hg, h12, hs, hl, q⟩ => ⟨v, g.toD, a, ns, e, hd, hs, hl, fun g' e1 _ _ H' eH => by
    rw [← toD_inj e1]
    exact q H' eH, fun no => by
    rw [isF_toD g 12 hg h12] at no
    cases no⟩
end
/-! ### copies, items -/
section
variable {K : PySem.W.Frag} {σ : L2.St} {H : Hp} {te : TE} {d : PyData} {ds : List PyData}
theorem gv_copy (h : GvE K te σ H (.list ds)) : GvE K (tCB (fun xs H Q => ∃ p ys, xs = [.ref p] ∧ (SqL K H p ys ∨ SqT K H p ys) ∧ ∀ l, H l = none → Q (.ref l) (upd H l (.lst ys))) (tCons te tNil)) σ H (.list ds) := fun H' e Q q =>
  h H' e _ fun v H1 e1 hv => by
    cases hv with
    | lst hs ha => exact ⟨_, _, rfl, .inl hs, fun l nl => q (.ref l) _ (e1.trans (same_new nl _)) (.lst (SqL.of upd_same) (dpAll_same (same_new nl _) _ _ ha))⟩
theorem gv_item {i : Nat} {v : V} {j : Nat} (h : σ[i]? = some (some v)) (hd : Dp K H v (.tuple ds)) (hj : ds[j]? = some d) : GvE K (tOp (rIxT K) (tVar i) (tC (.int (j : Int)))) σ H d := fun H' e Q q => by
  have hd' := dp_same e _ _ hd
  cases hd' with
  | tup hs ha =>
    rename_i a xs
    have l := dpAll_len ha
    have lt := (List.getElem?_eq_some_iff.mp hj).1
    have hx : xs[j]? = some (xs[j]'(by omega)) := List.getElem?_eq_getElem _
    obtain ⟨d', hd', hx'⟩ := dpAll_get ha hx
    rw [hj] at hd'
    cases hd'
    exact ⟨.ref a, h, a, xs, (j : Int), _, rfl, rfl, hs, atI_nat hx, q _ H' (Same.refl _) hx'⟩
theorem gv_itemL {i : Nat} {v : V} {j : Nat} (h : σ[i]? = some (some v)) (hd : Dp K H v (.list ds)) (hj : ds[j]? = some d) : GvE K (tOp (rIxL K) (tVar i) (tC (.int (j : Int)))) σ H d := fun H' e Q q => by
  have hd' := dp_same e _ _ hd
  cases hd' with
  | lst hs ha =>
    rename_i a xs
    have l := dpAll_len ha
    have lt := (List.getElem?_eq_some_iff.mp hj).1
    have hx : xs[j]? = some (xs[j]'(by omega)) := List.getElem?_eq_getElem _
    obtain ⟨d', hd', hx'⟩ := dpAll_get ha hx
    rw [hj] at hd'
    cases hd'
    exact ⟨.ref a, h, a, xs, (j : Int), _, rfl, rfl, hs, atI_nat hx, q _ H' (Same.refl _) hx'⟩
theorem ints_back : ∀ {ns : List Int} {vs : List V}, DpAll K H vs (ns.map PyData.int) → vs = ns.map V.int
  | [], _, h => by cases h; rfl
  | n :: ns, _, h => by
    have h : DpAll K H _ (.int n :: ns.map PyData.int) := h
    cases h with
    | cons h1 h2 =>
      cases h1
      rw [ints_back h2]
      rfl
theorem dp_ints_back {v : V} {ns : List Int} (h : Dp K H v (.list (ns.map PyData.int))) : ∃ a, v = .ref a ∧ SqL K H a (ns.map V.int) := by
  cases h with
  | lst hs ha =>
    rw [ints_back ha] at hs
    exact ⟨_, rfl, hs⟩
end
/-- of so many within one another, all that can be laid -/
def Lays (n : Nat) (d : PyData) : Prop := d.canLay0 = true ∧ d.depth ≤ n
theorem lays_list {n : Nat} : ∀ {ds : List PyData}, (∀ d ∈ ds, Lays n d) → Lays (n + 1) (.list ds) := fun {ds} h => by
  have h1 : PyData.canLayAll0 ds = true ∧ PyData.depthAll ds ≤ n := by
    induction ds with
    | nil => exact ⟨rfl, Nat.zero_le _⟩
    | cons d ds ih =>
      have a := h d List.mem_cons_self
      have b := ih fun x hx => h x (List.mem_cons_of_mem _ hx)
      exact ⟨by show (d.canLay0 && PyData.canLayAll0 ds) = true; rw [a.1, b.1]; rfl, by show max d.depth (PyData.depthAll ds) ≤ n; have := a.2; have := b.2; omega⟩
  exact ⟨h1.1, by show PyData.depthAll ds + 1 ≤ n + 1; have := h1.2; omega⟩
theorem lays_tuple {n : Nat} {ds : List PyData} (h : ∀ d ∈ ds, Lays n d) : Lays (n + 1) (.tuple ds) := by
  have q := lays_list h
  exact ⟨q.1, q.2⟩
theorem lays_shaped {n : Nat} {d : PyData} (h : Lays n d) (hn : n ≤ 64) : SeqAt.shaped d = true := by
  show (d.canLay0 && decide (d.depth ≤ 64)) = true
  rw [h.1, decide_eq_true (Nat.le_trans h.2 hn)]
  rfl
theorem lays_fms {fs : List Fm} (h : Gd fs) : Lays 13 (.list (fs.map Fm.toD)) := lays_list fun d hd => by
  obtain ⟨f, hf, rfl⟩ := List.mem_map.mp hd
  exact ⟨f.toD_lay, by rw [Fm.toD_depth]; exact (h f hf).2⟩
theorem lays_ints (ns : List Int) : Lays 13 (.list (ns.map PyData.int)) := lays_list fun d hd => by
  obtain ⟨i, _, rfl⟩ := List.mem_map.mp hd
  exact ⟨rfl, Nat.zero_le _⟩
theorem lays_cD {L R : List Fm} (gl : Gd L) (gr : Gd R) : Lays 14 (cD L R) := lays_tuple fun d hd => by
  rcases List.mem_cons.mp hd with rfl | hd
  · exact lays_fms gl
  · rw [List.mem_singleton.mp hd]
    exact lays_fms gr
theorem lays_up {n m : Nat} {d : PyData} (h : Lays n d) (k : n ≤ m) : Lays m d := ⟨h.1, Nat.le_trans h.2 k⟩
theorem lays_bool (b : Bool) : Lays 0 (.bool b) := ⟨rfl, Nat.le_refl _⟩
theorem eqv_self {n : Nat} {d : PyData} (h : Lays n d) (hn : n ≤ 64) : PyData.eqv d d = true := SeqAt.eqv_refl _ (SeqAt.canLay_of_shaped (lays_shaped h hn))
end Lm
set_option Elab.async false
set_option linter.all false
set_option maxRecDepth 100000
set_option maxHeartbeats 400000
namespace Lm
open PySem PySem.Spec PyProof.Rows L2
abbrev LQ : Str := Str.ofString "law" ++ Str.ofString ".<locals>."
def ifBody : Stmt → List Stmt
  | .If _ b _ _ => b
  | _ => []
abbrev sWay : Stmt := (defBody sLaw).getD 2 (.Pass ⟨0, 0, 0, 0⟩)
def spLaw (K : PySem.W.Frag) (P0 : Addr) : Sp := fun vs H Q _ => ∃ (a : Addr) (ns : List Int), vs = [.ref a] ∧ SqL K H a (ns.map V.int) ∧ ns.length ≤ 63 ∧ H P0 = some (.tbl #[]) ∧ ∀ H', Q (.bl true) H'
theorem scLaw : FnScope ["_law_script", "_law_good", "_law_found", "_law_other_here", "_law_world_here", "_law_handed", "_law_base", "_law_claim", "_law_wrong_here", "_law_one"] ["_law_script"] (defScope sLaw) := ⟨rfl, rfl, rfl, by decide +kernel, rfl, by decide +kernel, by decide +kernel⟩
theorem iff_eq {a b : Bool} {p : Prop} (h : a = true ↔ p) (k : b = true ↔ p) : a = b := by
  cases a with
  | true => exact (k.2 (h.1 rfl)).symm
  | false =>
    cases b with
    | true => exact h.2 (k.1 rfl)
    | false => rfl
section
variable {P : Program} {w : World} {K : PySem.W.Frag} {mg : Str → Option Value} {base : Heap} {f : Addr}
theorem ok_law {cc P0 C0 CL C1 C2 C3 g : Addr} {gd : FuncData} {oc kV doc pm ct : Value} {od an : Option Addr} {osl : Array (Option Value)} {t1 : Tok} (lk : K.lookup f = some ⟨oc, od, .func (PySem.W.fnOf "law" "law" (defArgs sLaw) (defBody sLaw) (defScope sLaw) .none kV doc pm an (.ref cc) ct), osl⟩) (hcd : PySem.W.codeIn K (.ref cc) "law" = true)
    (TB : LamX.TabB base mg cc P0) (B : Blt mg) (mw : mg "MOST_WORDS" = some (.int 60 t1)) (DR : Df K mg "_law_refused" sRefused ["_law_deed"] g gd) (RK : RefdK K mg CL C0 C1 C2 C3)
    (F1 : Has P w K mg base 2 "_law_first" ["_law_script"] (spFirst K)) (SI : Has P w K mg base 5 "_law_side" ["_law_script", "_law_at", "_law_base"] (spSide K)) (OT : Has P w K mg base 6 "_law_other" ["_law_script", "_law_claim", "_law_base"] (spOther K)) (WR : Has P w K mg base 3 "_law_wrong" ["_law_script", "_law_claim", "_law_base"] (spWrong K))
    (WO : Has P w K mg base 3 "_law_world" ["_law_cell", "_law_base"] spWorld) (LH : Has P w K mg base 14 "_law_holds" ["_law_claim", "_law_world_here"] (spLHolds K)) (LA : Has P w K mg base 1 "_law_alike" ["_law_one", "_law_other_here"] (spLAlike K))
    (IC : Has P w K mg base 17 "is_claim" ["thing"] (spIsClaim K)) (AL : HasN P w K mg base 19 "alike" ["one", "other"] (spAlike K C0)) (HD : HasN P w K mg base 19 "holds" ["claim", "world"] (spHolds K C0)) :
    FnOk P w K mg base CX0 22 f (PySem.W.fnOf "law" "law" (defArgs sLaw) (defBody sLaw) (defScope sLaw) .none kV doc pm an (.ref cc) ct) ["_law_script"] (spLaw K P0) := by
  refine fn_of lk hcd scLaw (fun vs H Q E h => ?_) (fun A outer s H vs Q E hr h => ?_)
  · obtain ⟨a, ns, rfl, _⟩ := h
    rfl
  obtain ⟨a, ns, rfl, hS, h63, hP0, q⟩ := h
  have A0 := calm_alike AL
  have H0 := calm_holds HD
  have rm : ∀ {k : Nat}, k ≤ 21 → Room k (A.deeper (envOfC "law" (defScope sLaw) s.heap.objs.size f (.ref cc))) := fun h => hr.mono h
  have hu : (A.deeper (envOfC "law" (defScope sLaw) s.heap.objs.size f (.ref cc))).units + 64 < cLine := hr.units
  -- the third question about what is wrong
  obtain ⟨tf, hF, qF⟩ : ∃ t, PSs (cxOf CX0 P w K mg base ["_law_script", "_law_good", "_law_found", "_law_other_here", "_law_world_here", "_law_handed", "_law_base", "_law_claim", "_law_wrong_here", "_law_one"] "law" (defScope sLaw) f (.ref cc) A outer s H E).nox ((ifBody sWay).drop 5) t ∧ ∀ (Z : Ends) (_ : Z.rt = Q) (u v : V) (L R : List Fm) (d : PyData) (good : Bool) (b : Int) (z2 z3 z4 z5 z9 : Option V) (H1 : Hp), LamX.Tabs [(P0, LQ ++ "<lambda>")] H1 → Dp K H1 u (cD L R) → Dp K H1 v d → short d → isC d = good → Gd L → Gd R → wordsS L + wordsS R ≤ 60 →
      t Z [some (.ref a), some (.bl good), z2, z3, z4, z5, some (.int b), some u, some v, z9] H1 := by
    refine ⟨_, pss_one (ps_ret (pe_cmpR op_ne (pe_refused (X := (cxOf CX0 P w K mg base ["_law_script", "_law_good", "_law_found", "_law_other_here", "_law_world_here", "_law_handed", "_law_base", "_law_claim", "_law_wrong_here", "_law_one"] "law" (defScope sLaw) f (.ref cc) A outer s H E).nox) (g := g) DR RK (by rfl) (ql := LQ) rfl TB rfl hr (LamX.lamS_by (sc := defScope sLaw) (by decide +kernel)) rfl (fun _ _ _ _ _ => rfl) (fun A' outer' s' H' E' f' co' (r' : Room 19 _) => pe_callN (E := E') HD nCx_takes (fun _ _ _ _ h => h) r' (by rfl) (pa_cons (pv 8) (pa_cons (pe_lst (pa_cons (pe_op op_mod (pv 6) pe_int) pa_nil)) pa_nil)))) (pv 1) (nomark _))), fun Z hZ u v L R d good b z2 z3 z4 z5 z9 H1 hT hu1 hv hsh hg gL gR hw => ?_⟩
    refine ⟨hT, fun H2 eN T2 => ?_⟩
    refine ⟨v, rfl, .int b, rfl, b, 100, rfl, rfl, (by show (0 : Int) < 100; decide), (by show 1 ≤ sizeLine; exact sl1000 (by decide)), fun p np => ?_⟩
    have s3 := same_new np (HO.lst [V.int (b % 100)])
    refine ⟨v, d, p, [b % 100], rfl, dp_same s3 _ _ (dp_tab eN _ _ hv), hsh, SqL.of upd_same, by show 1 ≤ 1000; decide, fun c L' R' e1 g1 g2 H3 e3 => ?_, fun c H3 e3 => ⟨rfl, rfl, fun H4 e4 => ?_⟩⟩
    · have : good = true := hg.symm.trans c
      subst this
      exact ⟨.bl true, rfl, rfl, by rw [hZ]; exact q H3⟩
    · have : good = false := hg.symm.trans c
      subst this
      exact ⟨.bl false, rfl, rfl, by rw [hZ]; exact q H4⟩
  -- the second
  obtain ⟨te, hE, qE⟩ : ∃ t, PSs (cxOf CX0 P w K mg base ["_law_script", "_law_good", "_law_found", "_law_other_here", "_law_world_here", "_law_handed", "_law_base", "_law_claim", "_law_wrong_here", "_law_one"] "law" (defScope sLaw) f (.ref cc) A outer s H E).nox ((ifBody sWay).drop 4) t ∧ ∀ (Z : Ends) (_ : Z.rt = Q) (u v : V) (L R : List Fm) (d : PyData) (good : Bool) (b : Int) (z2 z3 z4 z5 z9 : Option V) (H1 : Hp), LamX.Tabs [(P0, LQ ++ "<lambda>")] H1 → Dp K H1 u (cD L R) → Dp K H1 v d → short d → isC d = good → Gd L → Gd R → wordsS L + wordsS R ≤ 60 →
      t Z [some (.ref a), some (.bl good), z2, z3, z4, z5, some (.int b), some u, some v, z9] H1 := by
    refine ⟨_, pss_cons (ps_if (pt_cmpR op_eq (pe_refused (X := (cxOf CX0 P w K mg base ["_law_script", "_law_good", "_law_found", "_law_other_here", "_law_world_here", "_law_handed", "_law_base", "_law_claim", "_law_wrong_here", "_law_one"] "law" (defScope sLaw) f (.ref cc) A outer s H E).nox) (g := g) DR RK (by rfl) (ql := LQ) rfl TB rfl (rm (by decide)) (LamX.lamS_by (sc := defScope sLaw) (by decide +kernel)) rfl (fun _ _ _ _ _ => rfl) (fun A' outer' s' H' E' f' co' (r' : Room 19 _) => pe_callN (E := E') AL nCx_takes (fun _ _ _ _ h => h) r' (by rfl) (pa_cons (pv 7) (pa_cons (pv 8) pa_nil)))) (pv 1) (nomark _)) (pss_one (ps_ret pe_bl)) pss_nil) hF, fun Z hZ u v L R d good b z2 z3 z4 z5 z9 H1 hT hu1 hv hsh hg gL gR hw => ?_⟩
    refine ⟨hT, fun H2 eN T2 => ?_⟩
    have hu2 := dp_tab eN _ _ hu1
    have hv2 := dp_tab eN _ _ hv
    refine ⟨u, rfl, v, rfl, u, v, cD L R, d, rfl, hu2, hv2, short_cD hw, hsh, fun c1 c2 A1 B1 A2 B2 e1 e2 g1 g2 g3 g4 c H3 hc e3 => ?_, fun c H3 e3 => ⟨rfl, rfl, fun H4 e4 => ?_⟩⟩
    · have : good = true := hg.symm.trans c2
      subst this
      refine ⟨.bl true, rfl, rfl, _, rfl, ?_⟩
      refine iteF ?_
      exact qF _ hZ u v L R d true b _ _ _ _ _ H3 (LamX.Tabs.ext T2 e3) (dp_same e3 _ _ hu2) (dp_same e3 _ _ hv2) hsh hg gL gR hw
    · rw [isC_good gL gR hw, Bool.true_and] at c
      have : good = false := hg.symm.trans c
      subst this
      refine ⟨.bl false, rfl, rfl, _, rfl, ?_⟩
      refine iteF ?_
      have e34 := e3.trans e4
      exact qF _ hZ u v L R d false b _ _ _ _ _ H4 (LamX.Tabs.ext T2 e34) (dp_same e34 _ _ hu2) (dp_same e34 _ _ hv2) hsh hg gL gR hw
  -- what follows where nothing is wrong
  obtain ⟨tt, hT, qT⟩ : ∃ t, PSs (cxOf CX0 P w K mg base ["_law_script", "_law_good", "_law_found", "_law_other_here", "_law_world_here", "_law_handed", "_law_base", "_law_claim", "_law_wrong_here", "_law_one"] "law" (defScope sLaw) f (.ref cc) A outer s H E).nox ((defBody sLaw).drop 3) t ∧ ∀ (u : V) (L R : List Fm) (b : Int) (H1 : Hp), Same H H1 → Dp K H1 u (cD L R) → Gd2 L → Gd2 R → L.length ≤ 5 → R.length ≤ 5 →
      t { nx := fun _ H' => Q .non H', rt := Q } [some (.ref a), none, none, none, none, none, some (.int b), some u, none, none] H1 := by
    refine ⟨_, pss_cons (ps_set (i := 3) scLaw.nd rfl (.inl rfl) (pe_callH OT (rm (by decide)) (by rfl) (pa_cons (pv 0) (pa_cons (pv 7) (pa_cons (pv 6) pa_nil)))))
      (pss_cons (ps_set (i := 4) scLaw.nd rfl (.inl rfl) (pe_callH WO (rm (by decide)) (by rfl) (pa_cons (pe_op op_fdiv (pe_callH F1 (rm (by decide)) (by rfl) (pa_cons (pv 0) pa_nil)) pe_int) (pa_cons (pv 6) pa_nil))))
      (pss_cons (ps_set (i := 5) scLaw.nd rfl (.inl rfl) (pe_lst (pa_cons (pe_tup (pa_cons (pe_callTy call_list_of (by rfl) B.list bt_list (pa_cons (pe_ix ix_tup (pv 7) pe_int (fun _ _ => rfl)) pa_nil)) (pa_cons (pe_callTy call_list_of (by rfl) B.list bt_list (pa_cons (pe_ix ix_tup (pv 7) pe_int (fun _ _ => rfl)) pa_nil)) pa_nil))) (pa_cons (pe_tup (pa_cons (pe_callTy call_list_of (by rfl) B.list bt_list (pa_cons (pe_ix ix_tup (pv 3) pe_int (fun _ _ => rfl)) pa_nil)) (pa_cons (pe_callTy call_list_of (by rfl) B.list bt_list (pa_cons (pe_ix ix_tup (pv 3) pe_int (fun _ _ => rfl)) pa_nil)) pa_nil))) (pa_cons (pe_callTy call_list_of (by rfl) B.list bt_list (pa_cons (pv 4) pa_nil)) pa_nil)))))
      (pss_cons (ps_set (i := 2) scLaw.nd rfl (.inl rfl) (pe_lst (pa_cons (pe_callH A0 (rm (by decide)) (by rfl) (pa_cons (pe_ix ix_list (pv 5) pe_int (fun _ _ => rfl)) (pa_cons (pe_ix ix_list (pv 5) pe_int (fun _ _ => rfl)) pa_nil))) (pa_cons (pe_callH H0 (rm (by decide)) (by rfl) (pa_cons (pe_ix ix_list (pv 5) pe_int (fun _ _ => rfl)) (pa_cons (pe_ix ix_list (pv 5) pe_int (fun _ _ => rfl)) pa_nil))) (pa_cons (pe_callH IC (rm (by decide)) (by rfl) (pa_cons (pe_ix ix_list (pv 5) pe_int (fun _ _ => rfl)) pa_nil)) pa_nil)))))
      (pss_cons (ps_if (PW.pt (pw_or (pt_cmpR (op_neD hu) (pv 5) (pe_lst (pa_cons (pv 7) (pa_cons (pv 3) (pa_cons (pv 4) pa_nil)))) (nomark _)) (pw_or1 (pt_not (pt_val (pe_callB (cr_all rfl) (by rfl) B.all bt_all (pa_cons (pe_lc (own := [("_law_one", 9)]) (g := gName 9) (tt := tYes) rfl scLaw.nd (pi_list (pv 2))
          (blkOk_by (N := ["_law_script", "_law_good", "_law_found", "_law_other_here", "_law_world_here", "_law_handed", "_law_base", "_law_claim", "_law_wrong_here", "_law_one"]) (sc := defScope sLaw) (by decide +kernel)) (fun _ _ _ _ _ => pg_name (i := 9) scLaw.nd rfl (Or.inl rfl)) (fun _ _ _ _ _ => pts_nil) (fun _ _ _ _ _ => pe_callB (r := rIsi K) call_isi (by rfl) B.isinstance bt_isinstance (pa_cons (pv 9) (pa_cons (pe_bltn (v := .ty "bool") (by rfl) B.bool bt_bool rfl) pa_nil)))) pa_nil))))))) (pss_one (ps_ret pe_bl)) pss_nil)
      (pss_one (ps_ret (pe_cmpR (op_eqD hu) (pv 2) (pe_lst (pa_cons (pe_callH LA (rm (by decide)) (by rfl) (pa_cons (pv 7) (pa_cons (pv 3) pa_nil))) (pa_cons (pe_callH LH (rm (by decide)) (by rfl) (pa_cons (pv 7) (pa_cons (pv 4) pa_nil))) (pa_cons pe_bl pa_nil)))) (nomark _)))))))), fun u L R b H1 e1 hu1 g1 g2 l1 l2 => ?_⟩
    refine ⟨.ref a, rfl, u, rfl, .int b, rfl, a, ns, u, L, R, b, rfl, e1.seq hS, h63, hu1, g1, g2, l1, l2, fun v L' R' H2 e2 hv2 g3 g4 l3 l4 => ?_⟩
    refine ⟨.ref a, rfl, a, ns, rfl, (e1.trans e2).seq hS, h63, fun z => ⟨z, 2400, rfl, rfl, ⟨by decide, by decide⟩, .int b, rfl, z / 2400, b, rfl, fun r ws H3 e3 h3 l5 => ?_⟩⟩
    have hu3 := dp_same (e2.trans e3) _ _ hu1
    have hv3 := dp_same e3 _ _ hv2
    have hr3 := dp_ints (SqL.of h3 : SqL K H3 r (ws.map V.int))
    have w1 : wordsS L + wordsS R ≤ 60 := by have := gd2_words g1; have := gd2_words g2; omega
    have w2 : wordsS L' + wordsS R' ≤ 60 := by have := gd2_words g3; have := gd2_words g4; omega
    have y1 := lays_up (lays_cD g1.gd g2.gd) (by decide : 14 ≤ 20)
    have y2 := lays_up (lays_cD g3.gd g4.gd) (by decide : 14 ≤ 20)
    have y3 := lays_up (lays_ints ws) (by decide : 13 ≤ 20)
    have yy : Lays 21 (.list [cD L R, cD L' R', .list (ws.map PyData.int)]) := lays_list fun d hd => by
      simp only [List.mem_cons, List.not_mem_nil, or_false] at hd
      rcases hd with rfl | rfl | rfl
      · exact y1
      · exact y2
      · exact y3
    dsimp only [tNext, tSeq, tAsg, gName]
    refine gl_at (K := K) (ds := [cD L R, cD L' R', .list (ws.map PyData.int)]) (gv_cons (gv_tup (gv_cons (gv_copy (gv_item (j := 0) rfl hu3 rfl)) (gv_cons (gv_copy (gv_item (j := 1) rfl hu3 rfl)) gv_nil)) (by show 2 ≤ 1000; decide)) (gv_cons (gv_tup (gv_cons (gv_copy (gv_item (j := 0) rfl hv3 rfl)) (gv_cons (gv_copy (gv_item (j := 1) rfl hv3 rfl)) gv_nil)) (by show 2 ≤ 1000; decide)) (gv_cons (gv_copy (gv_var rfl hr3)) gv_nil))) (by show 3 ≤ 1000; decide) fun p5 vs5 H4 e4 h4 d4 l6 => ?_
    have dh : Dp K H4 (.ref p5) (.list [cD L R, cD L' R', .list (ws.map PyData.int)]) := .lst (SqL.of h4) d4
    obtain ⟨x0, x1, x2, rfl, hx0, hx1, hx2⟩ : ∃ x0 x1 x2, vs5 = [x0, x1, x2] ∧ Dp K H4 x0 (cD L R) ∧ Dp K H4 x1 (cD L' R') ∧ Dp K H4 x2 (.list (ws.map PyData.int)) := by
      cases d4 with
      | cons k1 d4 =>
        cases d4 with
        | cons k2 d4 =>
          cases d4 with
          | cons k3 d4 =>
            cases d4
            exact ⟨_, _, _, rfl, k1, k2, k3⟩
    obtain ⟨rw4, rfl, hw4⟩ := dp_ints_back hx2
    have at2 : atI [x0, x1, V.ref rw4] 2 = some (.ref rw4) := atI_nat (j := 2) rfl
    refine ⟨.ref p5, rfl, p5, _, 0, x0, rfl, rfl, SqL.of h4, at0 _ _, .ref p5, rfl, p5, _, 1, x1, rfl, rfl, SqL.of h4, at1 _ _ _, x0, x1, L, R, L', R', rfl, hx0, hx1, g1.gd, g2.gd, g3.gd, g4.gd, w1, w2, fun c H5 hc e5 => ?_⟩
    refine ⟨.ref p5, rfl, p5, _, 0, x0, rfl, rfl, SqL.of (e5 _ _ h4), at0 _ _, .ref p5, rfl, p5, _, 2, .ref rw4, rfl, rfl, SqL.of (e5 _ _ h4), at2, x0, L, R, rw4, ws, rfl, dp_same e5 _ _ hx0, g1.gd, g2.gd, w1, e5.seq hw4, by omega, fun H6 e6 => ?_⟩
    generalize htr : (!(L.all fun f => f.tr fun i => decide (i ∈ ws)) || R.any fun f => f.tr fun i => decide (i ∈ ws)) = hb
    have e56 := e5.trans e6
    refine ⟨.ref p5, rfl, p5, _, 0, x0, rfl, rfl, SqL.of (e56 _ _ h4), at0 _ _, x0, cD L R, rfl, dp_same e56 _ _ hx0, short_cD w1, fun H7 e7 => ?_⟩
    rw [isC_good g1.gd g2.gd w1]
    refine ⟨(by show 3 ≤ sizeLine; exact sl1000 (by decide)), fun p7 np7 => ?_⟩
    have s7 := same_new np7 (HO.lst [V.bl c, V.bl hb, V.bl true])
    have h7 := @upd_same H7 p7 (HO.lst [V.bl c, V.bl hb, V.bl true])
    have e47 := e56.trans (e7.trans s7)
    have dh7 := dp_same e47 _ _ dh
    have hu7 := dp_same (e4.trans e47) _ _ hu3
    have hv7 := dp_same (e4.trans e47) _ _ hv3
    have hr7 := e47 _ _ (e4 _ _ h3)
    generalize upd H7 p7 (HO.lst [V.bl c, V.bl hb, V.bl true]) = H8 at h7 dh7 hu7 hv7 hr7 ⊢
    refine ⟨.ref p5, rfl, u, rfl, v, rfl, .ref r, rfl, (by show 3 ≤ sizeLine; exact sl1000 (by decide)), fun p8 np8 => ?_⟩
    have s8 := same_new np8 (HO.lst [u, v, V.ref r])
    have dl : Dp K (upd H8 p8 (.lst [u, v, .ref r])) (.ref p8) (.list [cD L R, cD L' R', .list (ws.map PyData.int)]) := .lst (SqL.of upd_same) (.cons (dp_same s8 _ _ hu7) (.cons (dp_same s8 _ _ hv7) (.cons (dp_same s8 _ _ (dp_ints (SqL.of hr7))) .nil)))
    refine ⟨_, _, dp_same s8 _ _ dh7, dl, lays_shaped yy (by decide), lays_shaped yy (by decide), _, rfl, ?_⟩
    rw [eqv_self yy (by decide)]
    refine iteF ?_
    have h78 := s8 _ _ h7
    refine ⟨.ref p7, rfl, p7, rfl, ⟨_, SqL.of h78⟩, fun D9 nD9 => ?_⟩
    refine lc_map_list (K := K) (a := p7) (xs := [V.bl c, V.bl hb, V.bl true]) (ys := [true, true, true].map V.bl) (j := 9) (SqL.of h78) nD9 rfl (by show 3 ≤ sizeLine; exact sl1000 (by decide)) (fun i x y H' hi hy e Q' q' => ?_) (fun H9 e9 hL => ?_)
    · have bx : ∃ k : Bool, x = .bl k := by
        have m := List.mem_of_getElem? hi
        simp only [List.mem_cons, List.not_mem_nil, or_false] at m
        rcases m with rfl | rfl | rfl
        · exact ⟨_, rfl⟩
        · exact ⟨_, rfl⟩
        · exact ⟨_, rfl⟩
      obtain ⟨k, rfl⟩ := bx
      have ey : y = .bl true := by
        have m := List.mem_of_getElem? hy
        simp only [List.map_cons, List.map_nil, List.mem_cons, List.not_mem_nil, or_false] at m
        rcases m with rfl | rfl | rfl <;> rfl
      subst ey
      exact ⟨.bl k, rfl, .bl k, .ty "bool", _, _, _, rfl, .ty "bool", .base (.bl k), kit_ty (show kitB "bool" "bool" = some true from by decide +kernel), q' H' (Same.refl _)⟩
    refine ⟨D9, [true, true, true], rfl, SqL.of hL, true, rfl, ?_⟩
    refine iteF ?_
    have e89 := s8.trans e9
    have hu9 := dp_same e89 _ _ hu7
    have hv9 := dp_same e89 _ _ hv7
    refine ⟨.ref p7, rfl, u, rfl, v, rfl, u, v, L, R, L', R', rfl, hu9, hv9, g1.gd, g2.gd, g3.gd, g4.gd, by omega, by omega, by omega, by omega, fun c' H10 hc' e10 => ?_⟩
    refine ⟨u, rfl, .ref r, rfl, u, L, R, r, ws, rfl, dp_same e10 _ _ hu9, g1.gd, g2.gd, by omega, by omega, SqL.of (e10 _ _ (e89 _ _ hr7)), fun H11 e11 => ?_⟩
    rw [htr, iff_eq hc' hc]
    refine ⟨(by show 3 ≤ sizeLine; exact sl1000 (by decide)), fun p12 np12 => ?_⟩
    have s12 := same_new np12 (HO.lst [V.bl c, V.bl hb, V.bl true])
    have yb : Lays 1 (.list [.bool c, .bool hb, .bool true]) := lays_list fun d hd => by
      simp only [List.mem_cons, List.not_mem_nil, or_false] at hd
      rcases hd with rfl | rfl | rfl <;> exact lays_bool _
    refine ⟨.list [.bool c, .bool hb, .bool true], .list [.bool c, .bool hb, .bool true], .lst (SqL.of (s12 _ _ (e11 _ _ (e10 _ _ (e9 _ _ h78))))) (.cons (.bl c) (.cons (.bl hb) (.cons (.bl true) .nil))), .lst (SqL.of upd_same) (.cons (.bl c) (.cons (.bl hb) (.cons (.bl true) .nil))), lays_shaped yb (by decide), lays_shaped yb (by decide), ?_⟩
    rw [eqv_self yb (by decide)]
    exact q _
  refine ⟨_, (pss_cons (ps_set (i := 6) scLaw.nd rfl (.inr rfl) (pe_op op_mod (pe_callH F1 (rm (by decide)) (by rfl) (pa_cons (pv 0) pa_nil)) pe_int))
    (pss_cons (ps_set (i := 7) scLaw.nd rfl (.inr rfl) (pe_tup (pa_cons (pe_callH SI (rm (by decide)) (by rfl) (pa_cons (pv 0) (pa_cons pe_int (pa_cons (pv 6) pa_nil)))) (pa_cons (pe_callH SI (rm (by decide)) (by rfl) (pa_cons (pv 0) (pa_cons pe_int (pa_cons (pv 6) pa_nil)))) pa_nil))))
    (pss_cons (ps_if (pt_cmpR op_eq (pe_op op_mod (pe_op op_fdiv (pe_callH F1 (rm (by decide)) (by rfl) (pa_cons (pv 0) pa_nil)) pe_int) pe_int) pe_int (nomark _))
        (pss_cons (ps_asg (pe_callH WR (rm (by decide)) (by rfl) (pa_cons (pv 0) (pa_cons (pv 7) (pa_cons (pv 6) pa_nil)))) (pg_tup rfl (pgs_cons (pg_name (i := 8) scLaw.nd rfl (.inr rfl)) (pgs_cons (pg_name (i := 1) scLaw.nd rfl (.inl rfl)) pgs_nil))))
        (pss_cons (ps_set (i := 2) scLaw.nd rfl (.inl rfl) (pe_callH IC (rm (by decide)) (by rfl) (pa_cons (pv 8) pa_nil)))
        (pss_cons (ps_if (PW.pt (pw_or (pt_cmpR op_ne (pe_glob (v := .int 60) (by rfl) mw ⟨_, rfl⟩) pe_int (nomark _)) (pw_or (pt_not (pt_val (pe_callB call_isi (by rfl) B.isinstance bt_isinstance (pa_cons (pv 2) (pa_cons (pe_bltn (v := .ty "bool") (by rfl) B.bool bt_bool rfl) pa_nil))))) (pw_or1 (pt_cmpR op_ne (pv 2) (pv 1) (nomark _)))))) (pss_one (ps_ret pe_bl)) pss_nil)
        (pss_cons (ps_if (pt_cmpR op_eq (pe_refused (X := (cxOf CX0 P w K mg base ["_law_script", "_law_good", "_law_found", "_law_other_here", "_law_world_here", "_law_handed", "_law_base", "_law_claim", "_law_wrong_here", "_law_one"] "law" (defScope sLaw) f (.ref cc) A outer s H E).nox) (g := g) DR RK (by rfl) (ql := LQ) rfl TB rfl (rm (by decide)) (LamX.lamS_by (sc := defScope sLaw) (by decide +kernel)) rfl (fun _ _ _ _ _ => rfl) (fun A' outer' s' H' E' f' co' (r' : Room 19 _) => pe_callN (E := E') AL nCx_takes (fun _ _ _ _ h => h) r' (by rfl) (pa_cons (pv 8) (pa_cons (pv 7) pa_nil)))) (pv 1) (nomark _)) (pss_one (ps_ret pe_bl)) pss_nil)
        hE)))) pss_nil)
    hT))).nox, ?_⟩
  refine ⟨.ref a, rfl, a, ns, rfl, hS, h63, fun z1 => ⟨z1, 600, rfl, rfl, (by show (0 : Int) < 600; decide), ?_⟩⟩
  dsimp only
  generalize z1 % 600 = b
  refine ⟨.ref a, rfl, .int b, rfl, a, ns, 1, b, rfl, hS, h63, by decide, fun r1 ys1 L H1 e1 h1 d1 g1 l1 => ?_⟩
  refine ⟨.ref a, rfl, .int b, rfl, a, ns, 6, b, rfl, e1.seq hS, h63, by decide, fun r2 ys2 R H2 e2 h2 d2 g2 l2 => ?_⟩
  refine ⟨(by show 2 ≤ sizeLine; exact sl1000 (by decide)), fun pc npc => ?_⟩
  have s3 := same_new npc (HO.tup [V.ref r1, V.ref r2])
  have e23 := e2.trans s3
  have hc : Dp K _ (.ref pc) (cD L R) := mk_cD (SqT.of (@upd_same H2 pc (HO.tup [V.ref r1, V.ref r2]))) (SqL.of (e23 _ _ h1)) (SqL.of (s3 _ _ h2)) (dpAll_same e23 _ _ d1) (dpAll_same s3 _ _ d2)
  have e3 := e1.trans e23
  generalize upd H2 pc (HO.tup [V.ref r1, V.ref r2]) = H3 at hc e3 ⊢
  have wL := gd2_words g1
  have wR := gd2_words g2
  refine ⟨.ref a, rfl, a, ns, rfl, e3.seq hS, h63, fun z2 => ⟨z2, 600, rfl, rfl, ⟨by decide, by decide⟩, z2 / 600, 4, rfl, rfl, (by show (0 : Int) < 4; decide), rfl, _, rfl, ?_⟩⟩
  refine ite2 (fun _ => ?_) (fun _ => qT (.ref pc) L R b H3 e3 hc g1 g2 l1 l2)
  refine ⟨.ref a, rfl, .ref pc, rfl, .int b, rfl, a, ns, .ref pc, L, R, b, rfl, e3.seq hS, h63, hc, g1, g2, l1, l2, fun rw v d H4 e4 h4 hv hsh => ?_⟩
  refine ⟨rw, _, rfl, h4, rfl, v, _, rfl, _, [], rfl, rfl, ?_⟩
  have hc4 := dp_same e4 _ _ hc
  refine ⟨v, rfl, v, d, rfl, hv, hsh, fun H5 e5 => ?_⟩
  refine ⟨rfl, _, rfl, ?_⟩
  refine iteNS rfl ?_
  refine ⟨_, rfl, _, .ty "bool", _, _, _, rfl, .ty "bool", .base (.bl _), kit_ty (show kitB "bool" "bool" = some true from by decide +kernel), true, rfl, ?_⟩
  refine iteF ?_
  refine ⟨_, rfl, _, rfl, rfl, _, rfl, ?_⟩
  refine iteNS rfl ?_
  have hc5 := dp_same e5 _ _ hc4
  have hv5 := dp_same e5 _ _ hv
  have w60 : wordsS L + wordsS R ≤ 60 := by omega
  have tabs : LamX.Tabs [(P0, LQ ++ "<lambda>")] H5 := fun y hy => by
    rw [List.mem_singleton.mp hy]
    exact LamX.TabS.nil (e5 _ _ (e4 _ _ (e3 _ _ hP0)))
  refine ⟨tabs, fun H6 eN T6 => ?_⟩
  have hc6 := dp_tab eN _ _ hc5
  have hv6 := dp_tab eN _ _ hv5
  refine ⟨v, rfl, .ref pc, rfl, v, .ref pc, d, cD L R, rfl, hv6, hc6, hsh, short_cD w60, fun c1 c2 A1 B1 A2 B2 x1 x2 k1 k2 k3 k4 c H7 hc7 e7 => ?_, fun c H7 e7 => ⟨rfl, rfl, fun H8 e8 => ?_⟩⟩
  · rw [c1]
    refine ⟨.bl true, rfl, rfl, _, rfl, ?_⟩
    refine iteF ?_
    exact qE _ rfl (.ref pc) v L R d true b _ _ _ _ _ H7 (LamX.Tabs.ext T6 e7) (dp_same e7 _ _ hc6) (dp_same e7 _ _ hv6) hsh c1 g1.gd g2.gd w60
  · rw [isC_good g1.gd g2.gd w60, Bool.and_true] at c
    rw [c]
    refine ⟨.bl false, rfl, rfl, _, rfl, ?_⟩
    refine iteF ?_
    have e78 := e7.trans e8
    exact qE _ rfl (.ref pc) v L R d false b _ _ _ _ _ H8 (LamX.Tabs.ext T6 e78) (dp_same e78 _ _ hc6) (dp_same e78 _ _ hv6) hsh c g1.gd g2.gd w60
end
end Lm
set_option Elab.async false
set_option linter.all false
set_option maxRecDepth 100000
set_option maxHeartbeats 2000000
namespace Lm
open PySem PySem.Spec PyProof.Rows L2
theorem kit_self {K : PySem.W.Frag} (D : Addr) : PySem.W.kitOne K (.ref D) (.ref D) = some true := by
  unfold PySem.W.kitOne
  rw [if_pos (beq_self_eq_true _)]
theorem kit_ref {K : PySem.W.Frag} {D C : Addr} {b : Bool} (hd : PySem.W.hasDictIn K C = true) (ht : PySem.W.typeIn K (.ref C) = some (.type "type")) (hs : PySem.W.subIn K (.ref D) (.ref C) = some b) (ne : (Value.ref D == Value.ref C) = false) : PySem.W.kitOne K (.ref D) (.ref C) = some b := by
  obtain ⟨cd, hc, _⟩ := PySem.W.any_some hd
  have e2 : ((PySem.W.clsIn K C).isSome && PySem.W.typeIn K (.ref C) == some (.type "type")) = true := by rw [hc, ht] <;> rfl
  unfold PySem.W.kitOne
  rw [ne, if_neg Bool.false_ne_true]
  show (if ((PySem.W.clsIn K C).isSome && PySem.W.typeIn K (.ref C) == some (.type "type")) = true then PySem.W.subIn K (.ref D) (.ref C) else none) = some b
  rw [if_pos e2, hs]
theorem kit_bi {K : PySem.W.Frag} {D : Addr} {T : String} {b : Bool} (hm : PySem.W.kitMeta T = true) (hs : PySem.W.subIn K (.ref D) (.type T) = some b) : PySem.W.kitOne K (.ref D) (.type T) = some b := by
  unfold PySem.W.kitOne
  rw [show (Value.ref D == Value.type T) = false from rfl, if_neg Bool.false_ne_true]
  show (if PySem.W.kitMeta T = true then PySem.W.subIn K (.ref D) (.type T) else none) = some b
  rw [if_pos hm, hs]
theorem isStr_str (y : Str) (t : Tok) (x : Str) : Value.isStr (.str y t) x = (y == x) := rfl
theorem many_mk {K : PySem.W.Frag} {w : World} {dd : Addr} {t1 t2 t3 t4 u1 u2 u3 u4 : Tok} {g1 g2 g3 g4 : Int} {m : Nat}
    (ld : K.lookup dd = some ⟨.type "dict", none, .dict #[⟨g1, .str "not" t1, .int 1 u1⟩, ⟨g2, .str "and" t2, .int 2 u2⟩, ⟨g3, .str "or" t3, .int 2 u3⟩, ⟨g4, .str "then" t4, .int 2 u4⟩] m, #[]⟩)
    (e1 : g1 = PyData.keyHash w.params "not") (e2 : g2 = PyData.keyHash w.params "and") (e3 : g3 = PyData.keyHash w.params "or") (e4 : g4 = PyData.keyHash w.params "then") (low : (dd == sysModules) = false) :
    ManyD K w dd #[⟨g1, .str "not" t1, .int 1 u1⟩, ⟨g2, .str "and" t2, .int 2 u2⟩, ⟨g3, .str "or" t3, .int 2 u3⟩, ⟨g4, .str "then" t4, .int 2 u4⟩] m := by
  have at_ : ∀ x : Str, PySem.W.nsIn K dd x = (match [(⟨g1, .str "not" t1, .int 1 u1⟩ : DictEntry), ⟨g2, .str "and" t2, .int 2 u2⟩, ⟨g3, .str "or" t3, .int 2 u3⟩, ⟨g4, .str "then" t4, .int 2 u4⟩].find? (·.key.isStr x) with
      | some e => some (some e.val)
      | none => some none) := fun x => by
    unfold PySem.W.nsIn
    rw [ld]
    rfl
  have n1 : (("not" : Str) == ("and" : Str)) = false := by decide +kernel
  have n2 : (("not" : Str) == ("or" : Str)) = false := by decide +kernel
  have n3 : (("not" : Str) == ("then" : Str)) = false := by decide +kernel
  have n4 : (("and" : Str) == ("or" : Str)) = false := by decide +kernel
  have n5 : (("and" : Str) == ("then" : Str)) = false := by decide +kernel
  have n6 : (("or" : Str) == ("then" : Str)) = false := by decide +kernel
  refine ⟨⟨ld, ⟨⟨_, _, rfl, e1⟩, ⟨_, _, rfl, e2⟩, ⟨_, _, rfl, e3⟩, ⟨_, _, rfl, e4⟩, True.intro⟩, low⟩, ⟨u1, ?_⟩, ⟨u2, ?_⟩, ⟨u3, ?_⟩, ⟨u4, ?_⟩, fun x hx => ?_⟩
  · rw [at_]
    simp only [List.find?_cons, isStr_str, beq_self_eq_true]
  · rw [at_]
    simp only [List.find?_cons, isStr_str, beq_self_eq_true, n1]
  · rw [at_]
    simp only [List.find?_cons, isStr_str, beq_self_eq_true, n2, n4]
  · rw [at_]
    simp only [List.find?_cons, isStr_str, beq_self_eq_true, n3, n5, n6]
  · rw [at_]
    unfold arOf at hx
    split at hx
    · cases hx
    rename_i h1
    split at hx
    · cases hx
    rename_i h2
    split at hx
    · cases hx
    rename_i h3
    split at hx
    · cases hx
    rename_i h4
    have k1 : (("not" : Str) == x) = false := beq_eq_false_iff_ne.mpr fun z => h1 z.symm
    have k2 : (("and" : Str) == x) = false := beq_eq_false_iff_ne.mpr fun z => h2 z.symm
    have k3 : (("or" : Str) == x) = false := beq_eq_false_iff_ne.mpr fun z => h3 z.symm
    have k4 : (("then" : Str) == x) = false := beq_eq_false_iff_ne.mpr fun z => h4 z.symm
    simp only [List.find?_cons, isStr_str, k1, k2, k3, k4, List.find?_nil]
theorem all_mk {l : PySem.W.OpenLaw} {w : World} {K : PySem.W.Frag} {h : Heap} {mg : Str → Option Value} {fa dd cc P0 : Addr} (X : K.In h) (G : h.Ns mainGlobals mg) (hfa : mg "law" = some (.ref fa)) (own : LamX.OwnTab K fa h)
    {f0 f1 f2 f3 f4 f5 f6 f7 f8 f9 f10 f11 f12 f13 f14 f15 f16 f17 f18 f19 f20 f21 f22 f23 f24 f25 f26 f27 f28 f29 CL C0 C1 C2 C3 : Addr} {od0 an0 od1 an1 od2 an2 od3 an3 od4 an4 od5 an5 od6 an6 od7 an7 od8 an8 od9 an9 od10 an10 od11 an11 od12 an12 od13 an13 od14 an14 od15 an15 od16 an16 od17 an17 od18 an18 od19 an19 od20 an20 od21 an21 od22 an22 od23 an23 od24 an24 od25 an25 od26 an26 od27 an27 od28 an28 od29 an29 ccd : Option Addr} {sl0 sl1 sl2 sl3 sl4 sl5 sl6 sl7 sl8 sl9 sl10 sl11 sl12 sl13 sl14 sl15 sl16 sl17 sl18 sl19 sl20 sl21 sl22 sl23 sl24 sl25 sl26 sl27 sl28 sl29 csl : Array (Option Value)} {oc0 kV0 dc0 pm0 cd0 ct0 oc1 kV1 dc1 pm1 cd1 ct1 oc2 kV2 dc2 pm2 cd2 ct2 oc3 kV3 dc3 pm3 cd3 ct3 oc4 kV4 dc4 pm4 cd4 ct4 oc5 kV5 dc5 pm5 cd5 ct5 oc6 kV6 dc6 pm6 cd6 ct6 oc7 kV7 dc7 pm7 cd7 ct7 oc8 kV8 dc8 pm8 cd8 ct8 oc9 kV9 dc9 pm9 cd9 ct9 oc10 kV10 dc10 pm10 cd10 ct10 oc11 kV11 dc11 pm11 cd11 ct11 oc12 kV12 dc12 pm12 cd12 ct12 oc13 kV13 dc13 pm13 cd13 ct13 oc14 kV14 dc14 pm14 cd14 ct14 oc15 kV15 dc15 pm15 cd15 ct15 oc16 kV16 dc16 pm16 cd16 ct16 oc17 kV17 dc17 pm17 cd17 ct17 oc18 kV18 dc18 pm18 cd18 ct18 oc19 kV19 dc19 pm19 cd19 ct19 oc20 kV20 dc20 pm20 cd20 ct20 oc21 kV21 dc21 pm21 cd21 ct21 oc22 kV22 dc22 pm22 cd22 ct22 oc23 kV23 dc23 pm23 cd23 ct23 oc24 kV24 dc24 pm24 cd24 ct24 oc25 kV25 dc25 pm25 cd25 ct25 oc26 kV26 dc26 pm26 cd26 ct26 oc27 kV27 dc27 pm27 cd27 ct27 oc28 kV28 dc28 pm28 cd28 ct28 oc29 kV29 dc29 pm29 ct29 cce : Value} {cvs : Array Value}
    {tc0 tc1 tc2 t1 t2 t3 t4 u1 u2 u3 u4 : Tok} {g1 g2 g3 g4 : Int} {m : Nat}
    (a0 : PySem.W.nsIn K mainGlobals "is_number" = some (some (.ref f0))) (l0 : K.lookup f0 = some ⟨oc0, od0, .func (PySem.W.fnOf "is_number" "is_number" (defArgs sIsNum) (defBody sIsNum) (defScope sIsNum) .none kV0 dc0 pm0 an0 cd0 ct0), sl0⟩) (c0 : PySem.W.codeIn K cd0 "is_number" = true) (k0 : PySem.W.keepIn K (.ref f0) = true)
    (a1 : PySem.W.nsIn K mainGlobals "is_formula" = some (some (.ref f1))) (l1 : K.lookup f1 = some ⟨oc1, od1, .func (PySem.W.fnOf "is_formula" "is_formula" (defArgs sIsFormula) (defBody sIsFormula) (defScope sIsFormula) .none kV1 dc1 pm1 an1 cd1 ct1), sl1⟩) (c1 : PySem.W.codeIn K cd1 "is_formula" = true) (k1 : PySem.W.keepIn K (.ref f1) = true)
    (a2 : PySem.W.nsIn K mainGlobals "_is_formula_of" = some (some (.ref f2))) (l2 : K.lookup f2 = some ⟨oc2, od2, .func (PySem.W.fnOf "_is_formula_of" "_is_formula_of" (defArgs sIsF) (defBody sIsF) (defScope sIsF) .none kV2 dc2 pm2 an2 cd2 ct2), sl2⟩) (c2 : PySem.W.codeIn K cd2 "_is_formula_of" = true) (k2 : PySem.W.keepIn K (.ref f2) = true)
    (a3 : PySem.W.nsIn K mainGlobals "_is_sign" = some (some (.ref f3))) (l3 : K.lookup f3 = some ⟨oc3, od3, .func (PySem.W.fnOf "_is_sign" "_is_sign" (defArgs sIsSign) (defBody sIsSign) (defScope sIsSign) .none kV3 dc3 pm3 an3 cd3 ct3), sl3⟩) (c3 : PySem.W.codeIn K cd3 "_is_sign" = true) (k3 : PySem.W.keepIn K (.ref f3) = true)
    (a4 : PySem.W.nsIn K mainGlobals "refuse_no_formula" = some (some (.ref f4))) (l4 : K.lookup f4 = some ⟨oc4, od4, .func (PySem.W.fnOf "refuse_no_formula" "refuse_no_formula" (defArgs sRefuse) (defBody sRefuse) (defScope sRefuse) .none kV4 dc4 pm4 an4 cd4 ct4), sl4⟩) (c4 : PySem.W.codeIn K cd4 "refuse_no_formula" = true) (k4 : PySem.W.keepIn K (.ref f4) = true)
    (a5 : PySem.W.nsIn K mainGlobals "inner_formulas" = some (some (.ref f5))) (l5 : K.lookup f5 = some ⟨oc5, od5, .func (PySem.W.fnOf "inner_formulas" "inner_formulas" (defArgs sInner) (defBody sInner) (defScope sInner) .none kV5 dc5 pm5 an5 cd5 ct5), sl5⟩) (c5 : PySem.W.codeIn K cd5 "inner_formulas" = true) (k5 : PySem.W.keepIn K (.ref f5) = true)
    (a6 : PySem.W.nsIn K mainGlobals "words" = some (some (.ref f6))) (l6 : K.lookup f6 = some ⟨oc6, od6, .func (PySem.W.fnOf "words" "words" (defArgs sWords) (defBody sWords) (defScope sWords) .none kV6 dc6 pm6 an6 cd6 ct6), sl6⟩) (c6 : PySem.W.codeIn K cd6 "words" = true) (k6 : PySem.W.keepIn K (.ref f6) = true)
    (a7 : PySem.W.nsIn K mainGlobals "spelled" = some (some (.ref f7))) (l7 : K.lookup f7 = some ⟨oc7, od7, .func (PySem.W.fnOf "spelled" "spelled" (defArgs sSpelled) (defBody sSpelled) (defScope sSpelled) .none kV7 dc7 pm7 an7 cd7 ct7), sl7⟩) (c7 : PySem.W.codeIn K cd7 "spelled" = true) (k7 : PySem.W.keepIn K (.ref f7) = true)
    (a8 : PySem.W.nsIn K mainGlobals "truth" = some (some (.ref f8))) (l8 : K.lookup f8 = some ⟨oc8, od8, .func (PySem.W.fnOf "truth" "truth" (defArgs sTruth) (defBody sTruth) (defScope sTruth) .none kV8 dc8 pm8 an8 cd8 ct8), sl8⟩) (c8 : PySem.W.codeIn K cd8 "truth" = true) (k8 : PySem.W.keepIn K (.ref f8) = true)
    (a9 : PySem.W.nsIn K mainGlobals "_is_true" = some (some (.ref f9))) (l9 : K.lookup f9 = some ⟨oc9, od9, .func (PySem.W.fnOf "_is_true" "_is_true" (defArgs sIsTrue) (defBody sIsTrue) (defScope sIsTrue) .none kV9 dc9 pm9 an9 cd9 ct9), sl9⟩) (c9 : PySem.W.codeIn K cd9 "_is_true" = true) (k9 : PySem.W.keepIn K (.ref f9) = true)
    (a10 : PySem.W.nsIn K mainGlobals "is_claim" = some (some (.ref f10))) (l10 : K.lookup f10 = some ⟨oc10, od10, .func (PySem.W.fnOf "is_claim" "is_claim" (defArgs sIsClaim) (defBody sIsClaim) (defScope sIsClaim) .none kV10 dc10 pm10 an10 cd10 ct10), sl10⟩) (c10 : PySem.W.codeIn K cd10 "is_claim" = true) (k10 : PySem.W.keepIn K (.ref f10) = true)
    (a11 : PySem.W.nsIn K mainGlobals "refuse_no_claim" = some (some (.ref f11))) (l11 : K.lookup f11 = some ⟨oc11, od11, .func (PySem.W.fnOf "refuse_no_claim" "refuse_no_claim" (defArgs sNoClaim) (defBody sNoClaim) (defScope sNoClaim) .none kV11 dc11 pm11 an11 cd11 ct11), sl11⟩) (c11 : PySem.W.codeIn K cd11 "refuse_no_claim" = true) (k11 : PySem.W.keepIn K (.ref f11) = true)
    (a12 : PySem.W.nsIn K mainGlobals "alike" = some (some (.ref f12))) (l12 : K.lookup f12 = some ⟨oc12, od12, .func (PySem.W.fnOf "alike" "alike" (defArgs sAlike) (defBody sAlike) (defScope sAlike) .none kV12 dc12 pm12 an12 cd12 ct12), sl12⟩) (c12 : PySem.W.codeIn K cd12 "alike" = true) (k12 : PySem.W.keepIn K (.ref f12) = true)
    (a13 : PySem.W.nsIn K mainGlobals "claim_spelled" = some (some (.ref f13))) (l13 : K.lookup f13 = some ⟨oc13, od13, .func (PySem.W.fnOf "claim_spelled" "claim_spelled" (defArgs sClaimSp) (defBody sClaimSp) (defScope sClaimSp) .none kV13 dc13 pm13 an13 cd13 ct13), sl13⟩) (c13 : PySem.W.codeIn K cd13 "claim_spelled" = true) (k13 : PySem.W.keepIn K (.ref f13) = true)
    (a14 : PySem.W.nsIn K mainGlobals "_side_spelled" = some (some (.ref f14))) (l14 : K.lookup f14 = some ⟨oc14, od14, .func (PySem.W.fnOf "_side_spelled" "_side_spelled" (defArgs sSideSp) (defBody sSideSp) (defScope sSideSp) .none kV14 dc14 pm14 an14 cd14 ct14), sl14⟩) (c14 : PySem.W.codeIn K cd14 "_side_spelled" = true) (k14 : PySem.W.keepIn K (.ref f14) = true)
    (a15 : PySem.W.nsIn K mainGlobals "holds" = some (some (.ref f15))) (l15 : K.lookup f15 = some ⟨oc15, od15, .func (PySem.W.fnOf "holds" "holds" (defArgs sHolds) (defBody sHolds) (defScope sHolds) .none kV15 dc15 pm15 an15 cd15 ct15), sl15⟩) (c15 : PySem.W.codeIn K cd15 "holds" = true) (k15 : PySem.W.keepIn K (.ref f15) = true)
    (a16 : PySem.W.nsIn K mainGlobals "_law_cell_at" = some (some (.ref f16))) (l16 : K.lookup f16 = some ⟨oc16, od16, .func (PySem.W.fnOf "_law_cell_at" "_law_cell_at" (defArgs sCell) (defBody sCell) (defScope sCell) .none kV16 dc16 pm16 an16 cd16 ct16), sl16⟩) (c16 : PySem.W.codeIn K cd16 "_law_cell_at" = true) (k16 : PySem.W.keepIn K (.ref f16) = true)
    (a17 : PySem.W.nsIn K mainGlobals "_law_first" = some (some (.ref f17))) (l17 : K.lookup f17 = some ⟨oc17, od17, .func (PySem.W.fnOf "_law_first" "_law_first" (defArgs sFirst) (defBody sFirst) (defScope sFirst) .none kV17 dc17 pm17 an17 cd17 ct17), sl17⟩) (c17 : PySem.W.codeIn K cd17 "_law_first" = true) (k17 : PySem.W.keepIn K (.ref f17) = true)
    (a18 : PySem.W.nsIn K mainGlobals "_law_count" = some (some (.ref f18))) (l18 : K.lookup f18 = some ⟨oc18, od18, .func (PySem.W.fnOf "_law_count" "_law_count" (defArgs sCount) (defBody sCount) (defScope sCount) .none kV18 dc18 pm18 an18 cd18 ct18), sl18⟩) (c18 : PySem.W.codeIn K cd18 "_law_count" = true) (k18 : PySem.W.keepIn K (.ref f18) = true)
    (a19 : PySem.W.nsIn K mainGlobals "_law_sign" = some (some (.ref f19))) (l19 : K.lookup f19 = some ⟨oc19, od19, .func (PySem.W.fnOf "_law_sign" "_law_sign" (defArgs sSign) (defBody sSign) (defScope sSign) .none kV19 dc19 pm19 an19 cd19 ct19), sl19⟩) (c19 : PySem.W.codeIn K cd19 "_law_sign" = true) (k19 : PySem.W.keepIn K (.ref f19) = true)
    (a20 : PySem.W.nsIn K mainGlobals "_law_world" = some (some (.ref f20))) (l20 : K.lookup f20 = some ⟨oc20, od20, .func (PySem.W.fnOf "_law_world" "_law_world" (defArgs sWorld) (defBody sWorld) (defScope sWorld) .none kV20 dc20 pm20 an20 cd20 ct20), sl20⟩) (c20 : PySem.W.codeIn K cd20 "_law_world" = true) (k20 : PySem.W.keepIn K (.ref f20) = true)
    (a21 : PySem.W.nsIn K mainGlobals "_law_formula" = some (some (.ref f21))) (l21 : K.lookup f21 = some ⟨oc21, od21, .func (PySem.W.fnOf "_law_formula" "_law_formula" (defArgs sFormula) (defBody sFormula) (defScope sFormula) .none kV21 dc21 pm21 an21 cd21 ct21), sl21⟩) (c21 : PySem.W.codeIn K cd21 "_law_formula" = true) (k21 : PySem.W.keepIn K (.ref f21) = true)
    (a22 : PySem.W.nsIn K mainGlobals "_law_true" = some (some (.ref f22))) (l22 : K.lookup f22 = some ⟨oc22, od22, .func (PySem.W.fnOf "_law_true" "_law_true" (defArgs sLTrue) (defBody sLTrue) (defScope sLTrue) .none kV22 dc22 pm22 an22 cd22 ct22), sl22⟩) (c22 : PySem.W.codeIn K cd22 "_law_true" = true) (k22 : PySem.W.keepIn K (.ref f22) = true)
    (a23 : PySem.W.nsIn K mainGlobals "_law_holds" = some (some (.ref f23))) (l23 : K.lookup f23 = some ⟨oc23, od23, .func (PySem.W.fnOf "_law_holds" "_law_holds" (defArgs sLHolds) (defBody sLHolds) (defScope sLHolds) .none kV23 dc23 pm23 an23 cd23 ct23), sl23⟩) (c23 : PySem.W.codeIn K cd23 "_law_holds" = true) (k23 : PySem.W.keepIn K (.ref f23) = true)
    (a24 : PySem.W.nsIn K mainGlobals "_law_alike" = some (some (.ref f24))) (l24 : K.lookup f24 = some ⟨oc24, od24, .func (PySem.W.fnOf "_law_alike" "_law_alike" (defArgs sLAlike) (defBody sLAlike) (defScope sLAlike) .none kV24 dc24 pm24 an24 cd24 ct24), sl24⟩) (c24 : PySem.W.codeIn K cd24 "_law_alike" = true) (k24 : PySem.W.keepIn K (.ref f24) = true)
    (a25 : PySem.W.nsIn K mainGlobals "_law_side" = some (some (.ref f25))) (l25 : K.lookup f25 = some ⟨oc25, od25, .func (PySem.W.fnOf "_law_side" "_law_side" (defArgs sSide) (defBody sSide) (defScope sSide) .none kV25 dc25 pm25 an25 cd25 ct25), sl25⟩) (c25 : PySem.W.codeIn K cd25 "_law_side" = true) (k25 : PySem.W.keepIn K (.ref f25) = true)
    (a26 : PySem.W.nsIn K mainGlobals "_law_other" = some (some (.ref f26))) (l26 : K.lookup f26 = some ⟨oc26, od26, .func (PySem.W.fnOf "_law_other" "_law_other" (defArgs sOther) (defBody sOther) (defScope sOther) .none kV26 dc26 pm26 an26 cd26 ct26), sl26⟩) (c26 : PySem.W.codeIn K cd26 "_law_other" = true) (k26 : PySem.W.keepIn K (.ref f26) = true)
    (a27 : PySem.W.nsIn K mainGlobals "_law_wrong" = some (some (.ref f27))) (l27 : K.lookup f27 = some ⟨oc27, od27, .func (PySem.W.fnOf "_law_wrong" "_law_wrong" (defArgs sWrong) (defBody sWrong) (defScope sWrong) .none kV27 dc27 pm27 an27 cd27 ct27), sl27⟩) (c27 : PySem.W.codeIn K cd27 "_law_wrong" = true) (k27 : PySem.W.keepIn K (.ref f27) = true)
    (a28 : PySem.W.nsIn K mainGlobals "_law_refused" = some (some (.ref f28))) (l28 : K.lookup f28 = some ⟨oc28, od28, .func (PySem.W.fnOf "_law_refused" "_law_refused" (defArgs sRefused) (defBody sRefused) (defScope sRefused) .none kV28 dc28 pm28 an28 cd28 ct28), sl28⟩) (c28 : PySem.W.codeIn K cd28 "_law_refused" = true) (k28 : PySem.W.keepIn K (.ref f28) = true)
    (a29 : PySem.W.nsIn K mainGlobals "law" = some (some (.ref f29))) (l29 : K.lookup f29 = some ⟨oc29, od29, .func (PySem.W.fnOf "law" "law" (defArgs sLaw) (defBody sLaw) (defScope sLaw) .none kV29 dc29 pm29 an29 (.ref cc) ct29), sl29⟩) (c29 : PySem.W.codeIn K (.ref cc) "law" = true) (k29 : PySem.W.keepIn K (.ref f29) = true)
    (n0 : PySem.W.nsIn K mainGlobals "MOST_SIGN" = some (some (.int 99 tc0)))
    (n1 : PySem.W.nsIn K mainGlobals "MOST_DEEP" = some (some (.int 12 tc1)))
    (n2 : PySem.W.nsIn K mainGlobals "MOST_WORDS" = some (some (.int 60 tc2)))
    (md : PySem.W.nsIn K mainGlobals "MANY_INNER" = some (some (.ref dd))) (ld : K.lookup dd = some ⟨.type "dict", none, .dict #[⟨g1, .str "not" t1, .int 1 u1⟩, ⟨g2, .str "and" t2, .int 2 u2⟩, ⟨g3, .str "or" t3, .int 2 u3⟩, ⟨g4, .str "then" t4, .int 2 u4⟩] m, #[]⟩)
    (e1 : g1 = PyData.keyHash w.params "not") (e2 : g2 = PyData.keyHash w.params "and") (e3 : g3 = PyData.keyHash w.params "or") (e4 : g4 = PyData.keyHash w.params "then") (low : (dd == sysModules) = false)
    (lc : K.lookup cc = some ⟨cce, ccd, .fields cvs, csl⟩) (v11 : cvs[11]? = some (.ref P0)) (nP : K.lookup P0 = none) (hdr : PySem.W.codeHdIn K cc P0 = true)
    (mCL : PySem.W.nsIn K mainGlobals "LineError" = some (some (.ref CL)))
    (mC0 : PySem.W.nsIn K mainGlobals "BadClaim" = some (some (.ref C0)))
    (mC1 : PySem.W.nsIn K mainGlobals "BadFormula" = some (some (.ref C1)))
    (mC2 : PySem.W.nsIn K mainGlobals "BadChain" = some (some (.ref C2)))
    (mC3 : PySem.W.nsIn K mainGlobals "NoLemma" = some (some (.ref C3)))
    (EX : ErrK K C0) (EF : ErrK K C1) (xcl : PySem.W.exmOne K (.ref C0) (.ref CL) = some true) (x0 : PySem.W.kitOne K (.ref C0) (.ref C0) = some true) (xv : PySem.W.kitOne K (.ref C0) (.type "ValueError") = some true) (x1 : PySem.W.kitOne K (.ref C0) (.ref C1) = some false) (x2 : PySem.W.kitOne K (.ref C0) (.ref C2) = some false) (x3 : PySem.W.kitOne K (.ref C0) (.ref C3) = some false)
    (z0 : PySem.W.nsIn K mainGlobals "isinstance" = some none) (z1 : PySem.W.nsIn K mainGlobals "int" = some none) (z2 : PySem.W.nsIn K mainGlobals "bool" = some none) (z3 : PySem.W.nsIn K mainGlobals "tuple" = some none) (z4 : PySem.W.nsIn K mainGlobals "str" = some none) (z5 : PySem.W.nsIn K mainGlobals "list" = some none) (z6 : PySem.W.nsIn K mainGlobals "len" = some none) (z7 : PySem.W.nsIn K mainGlobals "all" = some none) (z8 : PySem.W.nsIn K mainGlobals "range" = some none) (z9 : PySem.W.nsIn K mainGlobals "any" = some none) (z10 : PySem.W.nsIn K mainGlobals "ValueError" = some none) (z11 : PySem.W.nsIn K mainGlobals "sum" = some none) (z12 : PySem.W.nsIn K mainGlobals "reversed" = some none) (z13 : PySem.W.nsIn K mainGlobals "sorted" = some none) :
    LamX.LawAtS l w K CX0 22 63 "_law_script" mg fa h := by
  have e := hfa.symm.trans (PySem.W.mg_of X G a29)
  cases e
  have D0 : Df K mg "is_number" sIsNum ["thing"] _ _ := ⟨fun_mk (st := sIsNum) l0 c0 k0, (fun_mk (st := sIsNum) l0 c0 k0).binds (ps := ["thing"]) (fun _ _ _ _ _ _ us hl => match us, hl with | [_], _ => rfl), PySem.W.mg_of X G a0⟩
  have D1 : Df K mg "is_formula" sIsFormula ["thing"] _ _ := ⟨fun_mk (st := sIsFormula) l1 c1 k1, (fun_mk (st := sIsFormula) l1 c1 k1).binds (ps := ["thing"]) (fun _ _ _ _ _ _ us hl => match us, hl with | [_], _ => rfl), PySem.W.mg_of X G a1⟩
  have D2 : Df K mg "_is_formula_of" sIsF ["thing", "deep"] _ _ := ⟨fun_mk (st := sIsF) l2 c2 k2, (fun_mk (st := sIsF) l2 c2 k2).binds (ps := ["thing", "deep"]) (fun _ _ _ _ _ _ us hl => match us, hl with | [_, _], _ => rfl), PySem.W.mg_of X G a2⟩
  have D3 : Df K mg "_is_sign" sIsSign ["thing"] _ _ := ⟨fun_mk (st := sIsSign) l3 c3 k3, (fun_mk (st := sIsSign) l3 c3 k3).binds (ps := ["thing"]) (fun _ _ _ _ _ _ us hl => match us, hl with | [_], _ => rfl), PySem.W.mg_of X G a3⟩
  have D4 : Df K mg "refuse_no_formula" sRefuse ["thing"] _ _ := ⟨fun_mk (st := sRefuse) l4 c4 k4, (fun_mk (st := sRefuse) l4 c4 k4).binds (ps := ["thing"]) (fun _ _ _ _ _ _ us hl => match us, hl with | [_], _ => rfl), PySem.W.mg_of X G a4⟩
  have D5 : Df K mg "inner_formulas" sInner ["f"] _ _ := ⟨fun_mk (st := sInner) l5 c5 k5, (fun_mk (st := sInner) l5 c5 k5).binds (ps := ["f"]) (fun _ _ _ _ _ _ us hl => match us, hl with | [_], _ => rfl), PySem.W.mg_of X G a5⟩
  have D6 : Df K mg "words" sWords ["f"] _ _ := ⟨fun_mk (st := sWords) l6 c6 k6, (fun_mk (st := sWords) l6 c6 k6).binds (ps := ["f"]) (fun _ _ _ _ _ _ us hl => match us, hl with | [_], _ => rfl), PySem.W.mg_of X G a6⟩
  have D7 : Df K mg "spelled" sSpelled ["f"] _ _ := ⟨fun_mk (st := sSpelled) l7 c7 k7, (fun_mk (st := sSpelled) l7 c7 k7).binds (ps := ["f"]) (fun _ _ _ _ _ _ us hl => match us, hl with | [_], _ => rfl), PySem.W.mg_of X G a7⟩
  have D8 : Df K mg "truth" sTruth ["f", "world"] _ _ := ⟨fun_mk (st := sTruth) l8 c8 k8, (fun_mk (st := sTruth) l8 c8 k8).binds (ps := ["f", "world"]) (fun _ _ _ _ _ _ us hl => match us, hl with | [_, _], _ => rfl), PySem.W.mg_of X G a8⟩
  have D9 : Df K mg "_is_true" sIsTrue ["f", "true_signs"] _ _ := ⟨fun_mk (st := sIsTrue) l9 c9 k9, (fun_mk (st := sIsTrue) l9 c9 k9).binds (ps := ["f", "true_signs"]) (fun _ _ _ _ _ _ us hl => match us, hl with | [_, _], _ => rfl), PySem.W.mg_of X G a9⟩
  have D10 : Df K mg "is_claim" sIsClaim ["thing"] _ _ := ⟨fun_mk (st := sIsClaim) l10 c10 k10, (fun_mk (st := sIsClaim) l10 c10 k10).binds (ps := ["thing"]) (fun _ _ _ _ _ _ us hl => match us, hl with | [_], _ => rfl), PySem.W.mg_of X G a10⟩
  have D11 : Df K mg "refuse_no_claim" sNoClaim ["thing"] _ _ := ⟨fun_mk (st := sNoClaim) l11 c11 k11, (fun_mk (st := sNoClaim) l11 c11 k11).binds (ps := ["thing"]) (fun _ _ _ _ _ _ us hl => match us, hl with | [_], _ => rfl), PySem.W.mg_of X G a11⟩
  have D12 : Df K mg "alike" sAlike ["one", "other"] _ _ := ⟨fun_mk (st := sAlike) l12 c12 k12, (fun_mk (st := sAlike) l12 c12 k12).binds (ps := ["one", "other"]) (fun _ _ _ _ _ _ us hl => match us, hl with | [_, _], _ => rfl), PySem.W.mg_of X G a12⟩
  have D13 : Df K mg "claim_spelled" sClaimSp ["claim"] _ _ := ⟨fun_mk (st := sClaimSp) l13 c13 k13, (fun_mk (st := sClaimSp) l13 c13 k13).binds (ps := ["claim"]) (fun _ _ _ _ _ _ us hl => match us, hl with | [_], _ => rfl), PySem.W.mg_of X G a13⟩
  have D14 : Df K mg "_side_spelled" sSideSp ["side"] _ _ := ⟨fun_mk (st := sSideSp) l14 c14 k14, (fun_mk (st := sSideSp) l14 c14 k14).binds (ps := ["side"]) (fun _ _ _ _ _ _ us hl => match us, hl with | [_], _ => rfl), PySem.W.mg_of X G a14⟩
  have D15 : Df K mg "holds" sHolds ["claim", "world"] _ _ := ⟨fun_mk (st := sHolds) l15 c15 k15, (fun_mk (st := sHolds) l15 c15 k15).binds (ps := ["claim", "world"]) (fun _ _ _ _ _ _ us hl => match us, hl with | [_, _], _ => rfl), PySem.W.mg_of X G a15⟩
  have D16 : Df K mg "_law_cell_at" sCell ["_law_script", "_law_k"] _ _ := ⟨fun_mk (st := sCell) l16 c16 k16, (fun_mk (st := sCell) l16 c16 k16).binds (ps := ["_law_script", "_law_k"]) (fun _ _ _ _ _ _ us hl => match us, hl with | [_, _], _ => rfl), PySem.W.mg_of X G a16⟩
  have D17 : Df K mg "_law_first" sFirst ["_law_script"] _ _ := ⟨fun_mk (st := sFirst) l17 c17 k17, (fun_mk (st := sFirst) l17 c17 k17).binds (ps := ["_law_script"]) (fun _ _ _ _ _ _ us hl => match us, hl with | [_], _ => rfl), PySem.W.mg_of X G a17⟩
  have D18 : Df K mg "_law_count" sCount ["_law_base"] _ _ := ⟨fun_mk (st := sCount) l18 c18 k18, (fun_mk (st := sCount) l18 c18 k18).binds (ps := ["_law_base"]) (fun _ _ _ _ _ _ us hl => match us, hl with | [_], _ => rfl), PySem.W.mg_of X G a18⟩
  have D19 : Df K mg "_law_sign" sSign ["_law_k", "_law_base"] _ _ := ⟨fun_mk (st := sSign) l19 c19 k19, (fun_mk (st := sSign) l19 c19 k19).binds (ps := ["_law_k", "_law_base"]) (fun _ _ _ _ _ _ us hl => match us, hl with | [_, _], _ => rfl), PySem.W.mg_of X G a19⟩
  have D20 : Df K mg "_law_world" sWorld ["_law_cell", "_law_base"] _ _ := ⟨fun_mk (st := sWorld) l20 c20 k20, (fun_mk (st := sWorld) l20 c20 k20).binds (ps := ["_law_cell", "_law_base"]) (fun _ _ _ _ _ _ us hl => match us, hl with | [_, _], _ => rfl), PySem.W.mg_of X G a20⟩
  have D21 : Df K mg "_law_formula" sFormula ["_law_cell", "_law_deep", "_law_base"] _ _ := ⟨fun_mk (st := sFormula) l21 c21 k21, (fun_mk (st := sFormula) l21 c21 k21).binds (ps := ["_law_cell", "_law_deep", "_law_base"]) (fun _ _ _ _ _ _ us hl => match us, hl with | [_, _, _], _ => rfl), PySem.W.mg_of X G a21⟩
  have D22 : Df K mg "_law_true" sLTrue ["_law_f", "_law_world_here"] _ _ := ⟨fun_mk (st := sLTrue) l22 c22 k22, (fun_mk (st := sLTrue) l22 c22 k22).binds (ps := ["_law_f", "_law_world_here"]) (fun _ _ _ _ _ _ us hl => match us, hl with | [_, _], _ => rfl), PySem.W.mg_of X G a22⟩
  have D23 : Df K mg "_law_holds" sLHolds ["_law_claim", "_law_world_here"] _ _ := ⟨fun_mk (st := sLHolds) l23 c23 k23, (fun_mk (st := sLHolds) l23 c23 k23).binds (ps := ["_law_claim", "_law_world_here"]) (fun _ _ _ _ _ _ us hl => match us, hl with | [_, _], _ => rfl), PySem.W.mg_of X G a23⟩
  have D24 : Df K mg "_law_alike" sLAlike ["_law_one", "_law_other_here"] _ _ := ⟨fun_mk (st := sLAlike) l24 c24 k24, (fun_mk (st := sLAlike) l24 c24 k24).binds (ps := ["_law_one", "_law_other_here"]) (fun _ _ _ _ _ _ us hl => match us, hl with | [_, _], _ => rfl), PySem.W.mg_of X G a24⟩
  have D25 : Df K mg "_law_side" sSide ["_law_script", "_law_at", "_law_base"] _ _ := ⟨fun_mk (st := sSide) l25 c25 k25, (fun_mk (st := sSide) l25 c25 k25).binds (ps := ["_law_script", "_law_at", "_law_base"]) (fun _ _ _ _ _ _ us hl => match us, hl with | [_, _, _], _ => rfl), PySem.W.mg_of X G a25⟩
  have D26 : Df K mg "_law_other" sOther ["_law_script", "_law_claim", "_law_base"] _ _ := ⟨fun_mk (st := sOther) l26 c26 k26, (fun_mk (st := sOther) l26 c26 k26).binds (ps := ["_law_script", "_law_claim", "_law_base"]) (fun _ _ _ _ _ _ us hl => match us, hl with | [_, _, _], _ => rfl), PySem.W.mg_of X G a26⟩
  have D27 : Df K mg "_law_wrong" sWrong ["_law_script", "_law_claim", "_law_base"] _ _ := ⟨fun_mk (st := sWrong) l27 c27 k27, (fun_mk (st := sWrong) l27 c27 k27).binds (ps := ["_law_script", "_law_claim", "_law_base"]) (fun _ _ _ _ _ _ us hl => match us, hl with | [_, _, _], _ => rfl), PySem.W.mg_of X G a27⟩
  have D28 : Df K mg "_law_refused" sRefused ["_law_deed"] _ _ := ⟨fun_mk (st := sRefused) l28 c28 k28, (fun_mk (st := sRefused) l28 c28 k28).binds (ps := ["_law_deed"]) (fun _ _ _ _ _ _ us hl => match us, hl with | [_], _ => rfl), PySem.W.mg_of X G a28⟩
  have D29 : Df K mg "law" sLaw ["_law_script"] _ _ := ⟨fun_mk (st := sLaw) l29 c29 k29, (fun_mk (st := sLaw) l29 c29 k29).binds (ps := ["_law_script"]) (fun _ _ _ _ _ _ us hl => match us, hl with | [_], _ => rfl), PySem.W.mg_of X G a29⟩
  have M : ManyD K w dd _ m := many_mk ld e1 e2 e3 e4 low
  have mM := PySem.W.mg_of X G md
  have b_isinstance := PySem.W.mg_none_of X G z0
  have b_int := PySem.W.mg_none_of X G z1
  have b_bool := PySem.W.mg_none_of X G z2
  have b_tuple := PySem.W.mg_none_of X G z3
  have b_str := PySem.W.mg_none_of X G z4
  have b_list := PySem.W.mg_none_of X G z5
  have b_len := PySem.W.mg_none_of X G z6
  have b_all := PySem.W.mg_none_of X G z7
  have b_range := PySem.W.mg_none_of X G z8
  have b_any := PySem.W.mg_none_of X G z9
  have b_ValueError := PySem.W.mg_none_of X G z10
  have b_sum := PySem.W.mg_none_of X G z11
  have b_reversed := PySem.W.mg_none_of X G z12
  have b_sorted := PySem.W.mg_none_of X G z13
  have B : Blt mg := ⟨b_isinstance, b_int, b_bool, b_tuple, b_str, b_list, b_len, b_all⟩
  have m_MOST_SIGN := PySem.W.mg_of X G n0
  have m_MOST_DEEP := PySem.W.mg_of X G n1
  have m_MOST_WORDS := PySem.W.mg_of X G n2
  have qCL := PySem.W.mg_of X G mCL
  have qC0 := PySem.W.mg_of X G mC0
  have qC1 := PySem.W.mg_of X G mC1
  have qC2 := PySem.W.mg_of X G mC2
  have qC3 := PySem.W.mg_of X G mC3
  have RK : RefdK K mg CL C0 C1 C2 C3 := ⟨EX, xcl, x0, xv, x1, x2, x3, qCL, qC0, qC1, qC2, qC3, b_isinstance, b_any, b_ValueError⟩
  refine ⟨PySem.W.fnOf "law" "law" (defArgs sLaw) (defBody sLaw) (defScope sLaw) .none kV29 dc29 pm29 an29 (.ref cc) ct29, [(cc, P0)], spLaw K P0, fun p hp => ?_, fun p hp => ?_, fun p hp => ?_, fun s v => .of_eq rfl, fun H a ns hl _ hT hS => ⟨a, ns, rfl, hS, hl, hT _ (List.mem_singleton.mpr rfl), fun _ => rfl⟩, fun base _ _ tb => ?_⟩
  · rw [List.mem_singleton.mp hp]
    exact own cc P0 _ _ _ _ _ _ l29 rfl rfl lc v11
  · rw [List.mem_singleton.mp hp]
    exact nP
  · rw [List.mem_singleton.mp hp]
    exact PySem.W.codeHd_of_K X hdr
  have TB := tb (cc, P0) (List.mem_singleton.mpr rfl)
  have N := D0.has (P := l.prog) (w := w) (base := base) (ok_isNum D0 B)
  have S := D3.has (ok_isSign D3 N m_MOST_SIGN)
  have F13 := all_isF D2 B S M mM 13
  have IF := D1.has (ok_isFormula D1 F13 m_MOST_DEEP)
  have RF := D4.hasN (ok_refuse D4 IF EF qC1)
  have I := D5.has (P := l.prog) (w := w) (base := base) (ok_inner D5)
  have SP := all_spelled D7 B I 13
  have WD := all_words D6 b_sum I 13
  have IT := all_isTrue D9 I 13
  have TR := calm_truth (D8.hasN (ok_truthN D8 RF N IT))
  have IC := D10.has (ok_isClaim D10 B m_MOST_WORDS IF WD)
  have NC := D11.hasN (ok_noClaim D11 IC EX qC0)
  have SS := D14.has (ok_sideSp D14 b_sorted SP)
  have CS := D13.has (ok_claimSp D13 SS)
  have AL := D12.hasN (ok_alike D12 NC CS)
  have HD := D15.hasN (ok_holds D15 B b_any NC TR)
  have C := D16.has (P := l.prog) (w := w) (base := base) (ok_cell D16 B)
  have F1 := D17.has (ok_first D17 C)
  have CO := D18.has (P := l.prog) (w := w) (K := K) (base := base) (ok_count D18)
  have SG := D19.has (ok_sign D19 CO)
  have WO := D20.has (ok_world D20 b_range CO SG)
  have FO := all_formula D21 SG 2
  have LT := all_ltrue (P := l.prog) (w := w) (base := base) D22 13
  have LH := D23.has (ok_lholds D23 B b_any LT)
  have LA := D24.has (P := l.prog) (w := w) (base := base) (ok_lalike D24 B b_range)
  have SI := D25.has (ok_side D25 b_range C FO)
  have OT := D26.has (ok_other D26 B b_reversed C FO SI)
  have WR := D27.has (ok_wrong D27 B C F1)
  exact ok_law l29 c29 TB B m_MOST_WORDS D28 RK F1 SI OT WR WO LH LA IC AL HD
theorem walk {l : PySem.W.OpenLaw} {q : Program} {loose : List Str} {XP : (Str → Option Value) → Heap → Prop} {YP : World → Heap → Prop} {d : DefRec} {K : Params → PySem.W.Frag} (hn : l.most = some 63) (hdf : d.params.defaults = []) (hrec : ((recsOf q).any fun e => e.name == d.name) = true)
    (hY : ∀ (w : World) (h : Heap), YP w h → (K w.params).In h)
    (F : ∀ (w : World) (mg : Str → Option Value) (fa : Addr) (h : Heap), YP w h → (K w.params).In h → h.Ns mainGlobals mg → mg d.name = some (.ref fa) → LamX.OwnTab (K w.params) fa h → LamX.LawAtS l w (K w.params) CX0 22 63 "_law_script" mg fa h) :
    PySem.W.WalkO q loose XP YP l.row.toRowW d [] (fun f vs => PySem.call f vs) :=
  LamX.walk_ofOwn (n := 63) (k := 22) (x := "_law_script") (CX := fun _ => CX0) hn (by decide) hdf ⟨rfl, by decide, by decide⟩ hrec hY F (fun _ _ _ _ _ z => z)
end Lm
set_option Elab.async false
set_option linter.all false
set_option maxRecDepth 100000
namespace Lm
end Lm
open PySem PySem.W PyProof.Rows
set_option maxRecDepth 100000 in
set_option maxHeartbeats 0 in
theorem PySem.Challenge.cw_lemmaless_k03_claims_holds : PySem.Challenge.rw_lemmaless_k03_claims.Holds := by
  w_on; o_law; k_head; (case hw => w_witness2)
  k_fill
  refine Lm.walk (l := PySem.Challenge.rw_lemmaless_k03_claims) rfl rfl (by first | rfl | decide +kernel) (fun w h Y => PySem.W.km_in_of Y) ?F
  case F =>
    intro w mg fa h Y KX G hmg own
    refine' Lm.all_mk KX G hmg own ?a0 ?l0 ?c0 ?k0 ?a1 ?l1 ?c1 ?k1 ?a2 ?l2 ?c2 ?k2 ?a3 ?l3 ?c3 ?k3 ?a4 ?l4 ?c4 ?k4 ?a5 ?l5 ?c5 ?k5 ?a6 ?l6 ?c6 ?k6 ?a7 ?l7 ?c7 ?k7 ?a8 ?l8 ?c8 ?k8 ?a9 ?l9 ?c9 ?k9 ?a10 ?l10 ?c10 ?k10 ?a11 ?l11 ?c11 ?k11 ?a12 ?l12 ?c12 ?k12 ?a13 ?l13 ?c13 ?k13 ?a14 ?l14 ?c14 ?k14 ?a15 ?l15 ?c15 ?k15 ?a16 ?l16 ?c16 ?k16 ?a17 ?l17 ?c17 ?k17 ?a18 ?l18 ?c18 ?k18 ?a19 ?l19 ?c19 ?k19 ?a20 ?l20 ?c20 ?k20 ?a21 ?l21 ?c21 ?k21 ?a22 ?l22 ?c22 ?k22 ?a23 ?l23 ?c23 ?k23 ?a24 ?l24 ?c24 ?k24 ?a25 ?l25 ?c25 ?k25 ?a26 ?l26 ?c26 ?k26 ?a27 ?l27 ?c27 ?k27 ?a28 ?l28 ?c28 ?k28 ?a29 ?l29 ?c29 ?k29 ?n0 ?n1 ?n2 ?md ?ld ?e1 ?e2 ?e3 ?e4 ?low ?lc ?v11 ?nP ?hdr ?mCL ?mC0 ?mC1 ?mC2 ?mC3 ⟨⟨?x1, ?x2, ?x3, ?x4, ?x5, ?x6, ?x7, ?x8⟩, ?x9, ?x10, ?x11⟩ ⟨⟨?x12, ?x13, ?x14, ?x15, ?x16, ?x17, ?x18, ?x19⟩, ?x20, ?x21, ?x22⟩ (PySem.W.exm_ref ?y1 ?y2 ?y3 ?y4) (Lm.kit_self _) (Lm.kit_bi (by decide +kernel) ?y5) (Lm.kit_ref ?y6 ?y7 ?y8 ?w1) (Lm.kit_ref ?y9 ?y10 ?y11 ?w2) (Lm.kit_ref ?y12 ?y13 ?y14 ?w3) ?z0 ?z1 ?z2 ?z3 ?z4 ?z5 ?z6 ?z7 ?z8 ?z9 ?z10 ?z11 ?z12 ?z13
    (case a0 => k_is); (case l0 => k_is); (case c0 => k_is); (case k0 => k_is)
    (case a1 => k_is); (case l1 => k_is); (case c1 => k_is); (case k1 => k_is)
    (case a2 => k_is); (case l2 => k_is); (case c2 => k_is); (case k2 => k_is)
    (case a3 => k_is); (case l3 => k_is); (case c3 => k_is); (case k3 => k_is)
    (case a4 => k_is); (case l4 => k_is); (case c4 => k_is); (case k4 => k_is)
    (case a5 => k_is); (case l5 => k_is); (case c5 => k_is); (case k5 => k_is)
    (case a6 => k_is); (case l6 => k_is); (case c6 => k_is); (case k6 => k_is)
    (case a7 => k_is); (case l7 => k_is); (case c7 => k_is); (case k7 => k_is)
    (case a8 => k_is); (case l8 => k_is); (case c8 => k_is); (case k8 => k_is)
    (case a9 => k_is); (case l9 => k_is); (case c9 => k_is); (case k9 => k_is)
    (case a10 => k_is); (case l10 => k_is); (case c10 => k_is); (case k10 => k_is)
    (case a11 => k_is); (case l11 => k_is); (case c11 => k_is); (case k11 => k_is)
    (case a12 => k_is); (case l12 => k_is); (case c12 => k_is); (case k12 => k_is)
    (case a13 => k_is); (case l13 => k_is); (case c13 => k_is); (case k13 => k_is)
    (case a14 => k_is); (case l14 => k_is); (case c14 => k_is); (case k14 => k_is)
    (case a15 => k_is); (case l15 => k_is); (case c15 => k_is); (case k15 => k_is)
    (case a16 => k_is); (case l16 => k_is); (case c16 => k_is); (case k16 => k_is)
    (case a17 => k_is); (case l17 => k_is); (case c17 => k_is); (case k17 => k_is)
    (case a18 => k_is); (case l18 => k_is); (case c18 => k_is); (case k18 => k_is)
    (case a19 => k_is); (case l19 => k_is); (case c19 => k_is); (case k19 => k_is)
    (case a20 => k_is); (case l20 => k_is); (case c20 => k_is); (case k20 => k_is)
    (case a21 => k_is); (case l21 => k_is); (case c21 => k_is); (case k21 => k_is)
    (case a22 => k_is); (case l22 => k_is); (case c22 => k_is); (case k22 => k_is)
    (case a23 => k_is); (case l23 => k_is); (case c23 => k_is); (case k23 => k_is)
    (case a24 => k_is); (case l24 => k_is); (case c24 => k_is); (case k24 => k_is)
    (case a25 => k_is); (case l25 => k_is); (case c25 => k_is); (case k25 => k_is)
    (case a26 => k_is); (case l26 => k_is); (case c26 => k_is); (case k26 => k_is)
    (case a27 => k_is); (case l27 => k_is); (case c27 => k_is); (case k27 => k_is)
    (case a28 => k_is); (case l28 => k_is); (case c28 => k_is); (case k28 => k_is)
    (case a29 => k_is); (case l29 => k_is); (case c29 => k_is); (case k29 => k_is)
    (case n0 => k_is)
    (case n1 => k_is)
    (case n2 => k_is)
    (case md => k_is); (case ld => k_is); (case e1 => rfl); (case e2 => rfl); (case e3 => rfl); (case e4 => rfl); (case low => rfl)
    (case lc => k_is); (case v11 => rfl); (case nP => first | k_is | rfl); (case hdr => first | k_is | rfl)
    (case mCL => k_is)
    (case mC0 => k_is)
    (case mC1 => k_is)
    (case mC2 => k_is)
    (case mC3 => k_is)
    (case x1 => first | k_is | k_exc)
    (case x2 => first | k_is | k_exc)
    (case x3 => first | k_is | k_exc)
    (case x4 => first | k_is | k_exc)
    (case x5 => first | k_is | k_exc)
    (case x6 => first | k_is | k_exc)
    (case x7 => first | k_is | k_exc)
    (case x8 => first | k_is | k_exc)
    (case x9 => first | k_is | k_exc)
    (case x10 => first | k_is | k_exc)
    (case x11 => first | k_is | k_exc)
    (case x12 => first | k_is | k_exc)
    (case x13 => first | k_is | k_exc)
    (case x14 => first | k_is | k_exc)
    (case x15 => first | k_is | k_exc)
    (case x16 => first | k_is | k_exc)
    (case x17 => first | k_is | k_exc)
    (case x18 => first | k_is | k_exc)
    (case x19 => first | k_is | k_exc)
    (case x20 => first | k_is | k_exc)
    (case x21 => first | k_is | k_exc)
    (case x22 => first | k_is | k_exc)
    (case y1 => k_is)
    (case y2 => k_is)
    (case y3 => k_is)
    (case y4 => k_is)
    (case y5 => k_is)
    (case y6 => k_is)
    (case y7 => k_is)
    (case y8 => k_is)
    (case y9 => k_is)
    (case y10 => k_is)
    (case y11 => k_is)
    (case y12 => k_is)
    (case y13 => k_is)
    (case y14 => k_is)
    (case w1 => first | rfl | decide)
    (case w2 => first | rfl | decide)
    (case w3 => first | rfl | decide)
    (case z0 => k_is)
    (case z1 => k_is)
    (case z2 => k_is)
    (case z3 => k_is)
    (case z4 => k_is)
    (case z5 => k_is)
    (case z6 => k_is)
    (case z7 => k_is)
    (case z8 => k_is)
    (case z9 => k_is)
    (case z10 => k_is)
    (case z11 => k_is)
    (case z12 => k_is)
    (case z13 => k_is)
#print axioms PySem.Challenge.cw_lemmaless_k03_claims_holds
