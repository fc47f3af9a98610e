import PyProof.Rows.All
import Wide.All
import OpenK.AllK
import Wide.FinOn
import HandS.Text
import KE.KDictList
import HandS.ForMost
import HandS.Deep
import HandS.DictComp
import HandS.IsInst
import HandS.FStr
import HandS.Style
import HandS.More
import PyProof.Rows.SeqMore
import HandS.Zip
import HandS.Exc
import HandS.ExcOwn
import HandS.TryOnly
import HandS.ExcCtx
import HandS.ExcIs
import HandS.Hot
import HandS.HotCalls
import HandS.Lambda
import PyProof.Rows.ListMulR
import PyProof.ListMulRoad
import HandS.EndOwn
import PySem.Challenge.RW_lemmaless_k04_what_rules_want
set_option Elab.async false
set_option linter.all false
set_option maxRecDepth 100000
/-! formulas as plain data: parts, texts, truth -/
namespace Lm
open PySem

inductive Bw where
  | an | o | th
  deriving DecidableEq
inductive Fm where
  | sg (i : Int)
  | no (f : Fm)
  | bi (w : Bw) (f g : Fm)
  deriving DecidableEq

def Bw.txt : Bw → Str
  | .an => "and"
  | .o => "or"
  | .th => "then"
theorem txt_inj : ∀ {a b : Bw}, a.txt = b.txt → a = b := by
  intro a b h
  cases a <;> cases b <;> first | rfl | exact absurd h (by decide +kernel)
theorem txt_sign : ∀ a : Bw, ¬ a.txt = ("sign" : Str) := by
  intro a; cases a <;> decide +kernel
theorem txt_not : ∀ a : Bw, ¬ a.txt = ("not" : Str) := by
  intro a; cases a <;> decide +kernel

namespace Fm
def toD : Fm → PyData
  | .sg i => .tuple [.str ("sign" : Str), .int i]
  | .no f => .tuple [.str ("not" : Str), f.toD]
  | .bi w f g => .tuple [.str w.txt, f.toD, g.toD]
def size : Fm → Nat
  | .sg _ => 1
  | .no f => f.size + 1
  | .bi _ f g => f.size + g.size + 1
def dep : Fm → Nat
  | .sg _ => 1
  | .no f => f.dep + 1
  | .bi _ f g => max f.dep g.dep + 1
def good : Fm → Prop
  | .sg i => 0 ≤ i ∧ i ≤ 99
  | .no f => f.good
  | .bi _ f g => f.good ∧ g.good
def kids : Fm → List Fm
  | .sg _ => []
  | .no f => [f]
  | .bi _ f g => [f, g]
def parts : Fm → List Fm
  | .sg i => [.sg i]
  | .no f => .no f :: f.parts
  | .bi w f g => .bi w f g :: (f.parts ++ g.parts)
def tr (S : Int → Bool) : Fm → Bool
  | .sg i => S i
  | .no f => !(f.tr S)
  | .bi .an f g => f.tr S && g.tr S
  | .bi .o f g => f.tr S || g.tr S
  | .bi .th f g => !(f.tr S) || g.tr S
theorem size_pos : ∀ f : Fm, 0 < f.size
  | .sg _ => Nat.one_pos
  | .no f => Nat.succ_pos _
  | .bi _ f g => Nat.succ_pos _
theorem dep_pos : ∀ f : Fm, 0 < f.dep
  | .sg _ => Nat.one_pos
  | .no f => Nat.succ_pos _
  | .bi _ f g => Nat.succ_pos _
theorem size_dep : ∀ f : Fm, f.size + 1 ≤ 2 ^ f.dep
  | .sg _ => by show 2 ≤ 2 ^ 1; decide
  | .no f => by
    have h := size_dep f
    have hp := size_pos f
    show f.size + 1 + 1 ≤ 2 ^ (f.dep + 1)
    rw [Nat.pow_succ]
    omega
  | .bi _ f g => by
    have h1 := size_dep f
    have h2 := size_dep g
    have m1 : 2 ^ f.dep ≤ 2 ^ (max f.dep g.dep) := Nat.pow_le_pow_right (by decide) (Nat.le_max_left _ _)
    have m2 : 2 ^ g.dep ≤ 2 ^ (max f.dep g.dep) := Nat.pow_le_pow_right (by decide) (Nat.le_max_right _ _)
    show f.size + g.size + 1 + 1 ≤ 2 ^ (max f.dep g.dep + 1)
    rw [Nat.pow_succ]
    omega
theorem self_part : ∀ f : Fm, f ∈ f.parts
  | .sg _ => List.mem_singleton.mpr rfl
  | .no _ => List.mem_cons_self
  | .bi _ _ _ => List.mem_cons_self
theorem part_size : ∀ {f p : Fm}, p ∈ f.parts → p.size ≤ f.size
  | .sg i, p, h => by
    have e : p = .sg i := List.mem_singleton.mp h
    rw [e]; exact Nat.le_refl _
  | .no f, p, h => by
    rcases List.mem_cons.mp h with e | h
    · rw [e]; exact Nat.le_refl _
    · have := part_size h
      show p.size ≤ f.size + 1
      omega
  | .bi w f g, p, h => by
    rcases List.mem_cons.mp h with e | h
    · rw [e]; exact Nat.le_refl _
    · show p.size ≤ f.size + g.size + 1
      rcases List.mem_append.mp h with h | h
      · have := part_size h
        omega
      · have := part_size h
        omega
theorem part_good : ∀ {f p : Fm}, f.good → p ∈ f.parts → p.good
  | .sg i, p, hg, h => by
    have e : p = .sg i := List.mem_singleton.mp h
    rw [e]; exact hg
  | .no f, p, hg, h => by
    rcases List.mem_cons.mp h with e | h
    · rw [e]; exact hg
    · exact part_good (f := f) hg h
  | .bi w f g, p, hg, h => by
    rcases List.mem_cons.mp h with e | h
    · rw [e]; exact hg
    · rcases List.mem_append.mp h with h | h
      · exact part_good (f := f) hg.1 h
      · exact part_good (f := g) hg.2 h
theorem part_dep : ∀ {f p : Fm}, p ∈ f.parts → p.dep ≤ f.dep
  | .sg i, p, h => by
    have e : p = .sg i := List.mem_singleton.mp h
    rw [e]; exact Nat.le_refl _
  | .no f, p, h => by
    rcases List.mem_cons.mp h with e | h
    · rw [e]; exact Nat.le_refl _
    · have := part_dep h
      show p.dep ≤ f.dep + 1
      omega
  | .bi w f g, p, h => by
    rcases List.mem_cons.mp h with e | h
    · rw [e]; exact Nat.le_refl _
    · show p.dep ≤ max f.dep g.dep + 1
      rcases List.mem_append.mp h with h | h
      · have := part_dep h
        omega
      · have := part_dep h
        omega
/-! ### data equal just where the formulas are -/
theorem e_tup (xs ys : List PyData) : PyData.eqv (.tuple xs) (.tuple ys) = PyData.eqvAll xs ys := by simp only [PyData.eqv]
theorem e_cons (x y : PyData) (xs ys : List PyData) : PyData.eqvAll (x :: xs) (y :: ys) = (PyData.eqv x y && PyData.eqvAll xs ys) := by simp only [PyData.eqvAll]
theorem e_nil : PyData.eqvAll [] [] = true := by simp only [PyData.eqvAll]
theorem e_short (y : PyData) (ys : List PyData) : PyData.eqvAll [] (y :: ys) = false := by simp only [PyData.eqvAll]
theorem e_long (y : PyData) (ys : List PyData) : PyData.eqvAll (y :: ys) [] = false := by simp only [PyData.eqvAll]
theorem e_str (x y : Str) : PyData.eqv (.str x) (.str y) = (x == y) := by simp only [PyData.eqv]
theorem e_int (x y : Int) : PyData.eqv (.int x) (.int y) = (x == y) := by simp only [PyData.eqv]
theorem toD_sg (i : Int) : (Fm.sg i).toD = .tuple [.str ("sign" : Str), .int i] := rfl
theorem toD_no (f : Fm) : (Fm.no f).toD = .tuple [.str ("not" : Str), f.toD] := rfl
theorem toD_bi (w : Bw) (f g : Fm) : (Fm.bi w f g).toD = .tuple [.str w.txt, f.toD, g.toD] := rfl
theorem toD_eqv : ∀ f g : Fm, PyData.eqv f.toD g.toD = decide (f = g)
  | .sg i, .sg j => by
    rw [toD_sg, toD_sg, e_tup, e_cons, e_cons, e_nil, e_str, e_int, beq_self_eq_true, Bool.true_and, Bool.and_true]
    by_cases h : i = j
    · rw [h, beq_self_eq_true]; exact (decide_eq_true rfl).symm
    · rw [decide_eq_false (fun q => h (Fm.sg.inj q))]; exact beq_eq_false_iff_ne.mpr h
  | .no f, .no g => by
    rw [toD_no, toD_no, e_tup, e_cons, e_cons, e_nil, e_str, beq_self_eq_true, Bool.true_and, Bool.and_true, toD_eqv f g]
    by_cases h : f = g
    · rw [h]; simp
    · rw [decide_eq_false h, decide_eq_false (fun q => h (Fm.no.inj q))]
  | .bi w f g, .bi v f' g' => by
    rw [toD_bi, toD_bi, e_tup, e_cons, e_cons, e_cons, e_nil, e_str, Bool.and_true, toD_eqv f f', toD_eqv g g']
    by_cases hw : w = v
    · subst hw
      rw [beq_self_eq_true, Bool.true_and]
      by_cases h1 : f = f'
      · subst h1
        by_cases h2 : g = g'
        · subst h2; simp
        · rw [decide_eq_false h2, Bool.and_false, decide_eq_false]
          intro q; exact h2 (Fm.bi.inj q).2.2
      · rw [decide_eq_false h1, Bool.false_and, decide_eq_false]
        intro q; exact h1 (Fm.bi.inj q).2.1
    · have q : (w.txt == v.txt) = false := beq_eq_false_iff_ne.mpr fun z => hw (txt_inj z)
      rw [q, Bool.false_and, decide_eq_false]
      intro z; exact hw (Fm.bi.inj z).1
  | .sg i, .no g => by
    rw [toD_sg, toD_no, e_tup, e_cons, e_str, show (("sign" : Str) == ("not" : Str)) = false from by decide +kernel, Bool.false_and, decide_eq_false (fun q => nomatch q)]
  | .no f, .sg j => by
    rw [toD_sg, toD_no, e_tup, e_cons, e_str, show (("not" : Str) == ("sign" : Str)) = false from by decide +kernel, Bool.false_and, decide_eq_false (fun q => nomatch q)]
  | .sg i, .bi v f g => by
    rw [toD_sg, toD_bi, e_tup, e_cons, e_cons, e_short, Bool.and_false, Bool.and_false, decide_eq_false (fun q => nomatch q)]
  | .bi v f g, .sg i => by
    rw [toD_sg, toD_bi, e_tup, e_cons, e_cons, e_long, Bool.and_false, Bool.and_false, decide_eq_false (fun q => nomatch q)]
  | .no f', .bi v f g => by
    rw [toD_no, toD_bi, e_tup, e_cons, e_cons, e_short, Bool.and_false, Bool.and_false, decide_eq_false (fun q => nomatch q)]
  | .bi v f g, .no f' => by
    rw [toD_no, toD_bi, e_tup, e_cons, e_cons, e_long, Bool.and_false, Bool.and_false, decide_eq_false (fun q => nomatch q)]
theorem toD_lay : ∀ f : Fm, f.toD.canLay0 = true
  | .sg i => by
    simp only [toD, PyData.canLay0, PyData.canLayAll0, Bool.and_true]
    decide +kernel
  | .no f => by
    have h := toD_lay f
    simp only [toD, PyData.canLay0, PyData.canLayAll0, Bool.and_true, h]
    decide +kernel
  | .bi w f g => by
    have h := toD_lay f
    have h2 := toD_lay g
    simp only [toD, PyData.canLay0, PyData.canLayAll0, Bool.and_true, h, h2]
    cases w <;> decide +kernel
theorem toD_depth : ∀ f : Fm, f.toD.depth = f.dep
  | .sg i => by simp [toD, PyData.depth, PyData.depthAll, dep]
  | .no f => by
    have h := toD_depth f
    simp [toD, PyData.depth, PyData.depthAll, dep, h]
  | .bi w f g => by
    have h := toD_depth f
    have h2 := toD_depth g
    simp [toD, PyData.depth, PyData.depthAll, dep, h, h2]
end Fm

theorem lays_all : ∀ fs : List Fm, PyData.canLayAll0 (fs.map Fm.toD) = true
  | [] => rfl
  | f :: fs => by
    have h := lays_all fs
    simp only [List.map_cons, PyData.canLayAll0, Fm.toD_lay f, h, Bool.and_true]
theorem depths_all {n : Nat} : ∀ fs : List Fm, (∀ f ∈ fs, f.dep ≤ n) → PyData.depthAll (fs.map Fm.toD) ≤ n
  | [], _ => Nat.zero_le _
  | f :: fs, h => by
    have h1 := depths_all fs fun g hg => h g (List.mem_cons_of_mem _ hg)
    have h2 := h f List.mem_cons_self
    simp only [List.map_cons, PyData.depthAll, Fm.toD_depth f]
    omega
theorem shaped_fm (f : Fm) (h : f.dep ≤ 64) : SeqAt.shaped f.toD = true := by
  show (f.toD.canLay0 && decide (f.toD.depth ≤ 64)) = true
  rw [Fm.toD_lay, Fm.toD_depth, Bool.true_and]
  exact decide_eq_true h
theorem shaped_fms (fs : List Fm) (h : ∀ f ∈ fs, f.dep ≤ 63) : SeqAt.shaped (.list (fs.map Fm.toD)) = true := by
  have h1 := depths_all fs h
  show (PyData.canLayAll0 (fs.map Fm.toD) && decide (PyData.depthAll (fs.map Fm.toD) + 1 ≤ 64)) = true
  rw [lays_all, Bool.true_and]
  exact decide_eq_true (by omega)
theorem eqv_fms (fs : List Fm) : PyData.eqv (.list (fs.map Fm.toD)) (.list (fs.map Fm.toD)) = true := SeqAt.eqv_refl _ (lays_all fs)
theorem any_fm (f : Fm) : ∀ fs : List Fm, ((fs.map Fm.toD).any fun z => PyData.eqv z f.toD) = decide (f ∈ fs)
  | [] => by simp
  | g :: fs => by
    rw [List.map_cons, List.any_cons, any_fm f fs, Fm.toD_eqv]
    by_cases h : g = f
    · subst h
      simp
    · rw [decide_eq_false h, Bool.false_or]
      by_cases h2 : f ∈ fs
      · rw [decide_eq_true h2, decide_eq_true (List.mem_cons_of_mem _ h2)]
      · rw [decide_eq_false h2, decide_eq_false]
        intro q
        rcases List.mem_cons.mp q with e | e
        · exact h e.symm
        · exact h2 e

/-! ### parts, each where it stands first: by the program's way (a part that is there is passed over), by the law's (all is walked) -/
def findP : Fm → List Fm → List Fm
  | f, acc => if f ∈ acc then acc else match f with
    | .sg i => acc ++ [.sg i]
    | .no g => findP g (acc ++ [.no g])
    | .bi w g h => findP h (findP g (acc ++ [.bi w g h]))
def walkP : Fm → List Fm → List Fm
  | .sg i, acc => if Fm.sg i ∈ acc then acc else acc ++ [.sg i]
  | .no g, acc => walkP g (if Fm.no g ∈ acc then acc else acc ++ [.no g])
  | .bi w g h, acc => walkP h (walkP g (if Fm.bi w g h ∈ acc then acc else acc ++ [.bi w g h]))
theorem findP_in {f : Fm} {acc : List Fm} (h : f ∈ acc) : findP f acc = acc := by
  cases f <;> (unfold findP; rw [if_pos h])
theorem findP_out {f : Fm} {acc : List Fm} (h : ¬ f ∈ acc) : findP f acc = f.kids.foldl (fun a g => findP g a) (acc ++ [f]) := by
  cases f <;> (rw [findP, if_neg h]; rfl)
theorem walkP_eq (f : Fm) (acc : List Fm) : walkP f acc = f.kids.foldl (fun a g => walkP g a) (if f ∈ acc then acc else acc ++ [f]) := by
  cases f <;> rfl
theorem walkP_stay : ∀ (f : Fm) (acc : List Fm), (∀ p ∈ f.parts, p ∈ acc) → walkP f acc = acc
  | .sg i, acc, h => by rw [walkP, if_pos (h _ (Fm.self_part _))]
  | .no g, acc, h => by
    rw [walkP, if_pos (h _ (Fm.self_part _))]
    exact walkP_stay g acc fun p hp => h p (List.mem_cons_of_mem _ hp)
  | .bi w g k, acc, h => by
    rw [walkP, if_pos (h _ (Fm.self_part _)), walkP_stay g acc fun p hp => h p (List.mem_cons_of_mem _ (List.mem_append_left _ hp))]
    exact walkP_stay k acc fun p hp => h p (List.mem_cons_of_mem _ (List.mem_append_right _ hp))
/-- what is small is whole in acc -/
def Whole (n : Nat) (acc : List Fm) : Prop := ∀ g ∈ acc, g.size ≤ n → ∀ p ∈ g.parts, p ∈ acc
theorem Whole.mono {m n : Nat} {acc : List Fm} (h : Whole n acc) (e : m ≤ n) : Whole m acc := fun g hg hs => h g hg (Nat.le_trans hs e)
theorem walk_sub : ∀ (f : Fm) (acc : List Fm), ∀ g ∈ acc, g ∈ walkP f acc
  | .sg i, acc, g, h => by
    rw [walkP]; split
    · exact h
    · exact List.mem_append_left _ h
  | .no k, acc, g, h => by
    rw [walkP]
    refine walk_sub k _ g ?_
    split
    · exact h
    · exact List.mem_append_left _ h
  | .bi w k l, acc, g, h => by
    rw [walkP]
    refine walk_sub l _ g (walk_sub k _ g ?_)
    split
    · exact h
    · exact List.mem_append_left _ h
theorem walk_has : ∀ (f : Fm) (acc : List Fm), ∀ p ∈ f.parts, p ∈ walkP f acc
  | .sg i, acc, p, h => by
    have e : p = .sg i := List.mem_singleton.mp h
    rw [e, walkP]; split
    · assumption
    · exact List.mem_append_right _ (List.mem_singleton.mpr rfl)
  | .no k, acc, p, h => by
    rw [walkP]
    rcases List.mem_cons.mp h with e | h
    · rw [e]
      refine walk_sub k _ _ ?_
      split
      · assumption
      · exact List.mem_append_right _ (List.mem_singleton.mpr rfl)
    · exact walk_has k _ p h
  | .bi w k l, acc, p, h => by
    rw [walkP]
    rcases List.mem_cons.mp h with e | h
    · rw [e]
      refine walk_sub l _ _ (walk_sub k _ _ ?_)
      split
      · assumption
      · exact List.mem_append_right _ (List.mem_singleton.mpr rfl)
    · rcases List.mem_append.mp h with h | h
      · exact walk_sub l _ _ (walk_has k _ p h)
      · exact walk_has l _ p h
/-- what is new in the walk is a part of f -/
theorem walk_new : ∀ (f : Fm) (acc : List Fm), ∀ g ∈ walkP f acc, g ∈ acc ∨ g ∈ f.parts
  | .sg i, acc, g, h => by
    rw [walkP] at h
    split at h
    · exact .inl h
    · exact (List.mem_append.mp h)
  | .no k, acc, g, h => by
    rw [walkP] at h
    rcases walk_new k _ g h with h | h
    · split at h
      · exact .inl h
      · rcases List.mem_append.mp h with h | h
        · exact .inl h
        · exact .inr (List.mem_singleton.mp h ▸ Fm.self_part _)
    · exact .inr (List.mem_cons_of_mem _ h)
  | .bi w k l, acc, g, h => by
    rw [walkP] at h
    rcases walk_new l _ g h with h | h
    · rcases walk_new k _ g h with h | h
      · split at h
        · exact .inl h
        · rcases List.mem_append.mp h with h | h
          · exact .inl h
          · exact .inr (List.mem_singleton.mp h ▸ Fm.self_part _)
      · exact .inr (List.mem_cons_of_mem _ (List.mem_append_left _ h))
    · exact .inr (List.mem_cons_of_mem _ (List.mem_append_right _ h))
theorem Fm.part_trans : ∀ {f p q : Fm}, p ∈ f.parts → q ∈ p.parts → q ∈ f.parts
  | .sg i, p, q, hp, hq => by
    have e : p = .sg i := List.mem_singleton.mp hp
    rw [e] at hq; exact hq
  | .no f, p, q, hp, hq => by
    rcases List.mem_cons.mp hp with e | hp
    · rw [e] at hq; exact hq
    · exact List.mem_cons_of_mem _ (Fm.part_trans hp hq)
  | .bi w f g, p, q, hp, hq => by
    rcases List.mem_cons.mp hp with e | hp
    · rw [e] at hq; exact hq
    · rcases List.mem_append.mp hp with hp | hp
      · exact List.mem_cons_of_mem _ (List.mem_append_left _ (Fm.part_trans hp hq))
      · exact List.mem_cons_of_mem _ (List.mem_append_right _ (Fm.part_trans hp hq))
/-- behind the walk of f what was whole is whole, and f's parts -/
theorem walk_whole {f : Fm} {acc : List Fm} {n : Nat} (h : Whole n acc) : Whole n (walkP f acc) := fun g hg hs p hp => by
  rcases walk_new f acc g hg with q | q
  · exact walk_sub f acc p (h g q hs p hp)
  · exact walk_has f acc p (Fm.part_trans q hp)
theorem whole_snoc {f : Fm} {acc : List Fm} {n : Nat} (h : Whole n acc) (hf : n < f.size) : Whole n (acc ++ [f]) := fun g hg hs p hp => by
  rcases List.mem_append.mp hg with q | q
  · exact List.mem_append_left _ (h g q hs p hp)
  · have e := List.mem_singleton.mp q
    subst e
    omega
theorem find_walk : ∀ (f : Fm) (acc : List Fm), Whole f.size acc → findP f acc = walkP f acc
  | .sg i, acc, h => by
    by_cases c : Fm.sg i ∈ acc
    · rw [findP_in c, walkP, if_pos c]
    · rw [findP_out c, walkP, if_neg c]; rfl
  | .no g, acc, h => by
    by_cases c : Fm.no g ∈ acc
    · rw [findP_in c, walkP_stay _ _ (h _ c (Nat.le_refl _))]
    · rw [findP_out c, walkP, if_neg c]
      show findP g (acc ++ [Fm.no g]) = _
      exact find_walk g _ (whole_snoc (h.mono (by show g.size ≤ g.size + 1; omega)) (by show g.size < g.size + 1; omega))
  | .bi w g k, acc, h => by
    by_cases c : Fm.bi w g k ∈ acc
    · rw [findP_in c, walkP_stay _ _ (h _ c (Nat.le_refl _))]
    · rw [findP_out c, walkP, if_neg c]
      show findP k (findP g (acc ++ [Fm.bi w g k])) = _
      have sz : (Fm.bi w g k).size = g.size + k.size + 1 := rfl
      have hp := Fm.size_pos g
      have hq := Fm.size_pos k
      have w1 : ∀ m, m ≤ g.size + k.size → Whole m (acc ++ [Fm.bi w g k]) := fun m hm => whole_snoc (h.mono (by omega)) (by omega)
      rw [find_walk g _ (w1 _ (by omega))]
      exact find_walk k _ (walk_whole (w1 _ (by omega)))
theorem whole_nil (n : Nat) : Whole n [] := fun _ h => nomatch h
theorem find_is_walk (f : Fm) : findP f [] = walkP f [] := find_walk f [] (whole_nil _)
theorem findP_len : ∀ (f : Fm) (acc : List Fm), (findP f acc).length ≤ acc.length + f.size
  | .sg i, acc => by
    rw [findP]; split
    · omega
    · rw [List.length_append]; exact Nat.le_refl _
  | .no g, acc => by
    rw [findP]; split
    · omega
    · have := findP_len g (acc ++ [.no g])
      rw [List.length_append] at this
      show _ ≤ acc.length + (g.size + 1)
      have e : [Fm.no g].length = 1 := rfl
      show (findP g (acc ++ [.no g])).length ≤ _
      omega
  | .bi w g k, acc => by
    rw [findP]; split
    · omega
    · have h1 := findP_len g (acc ++ [.bi w g k])
      have h2 := findP_len k (findP g (acc ++ [.bi w g k]))
      rw [List.length_append] at h1
      have e : [Fm.bi w g k].length = 1 := rfl
      show (findP k (findP g (acc ++ [.bi w g k]))).length ≤ acc.length + (g.size + k.size + 1)
      omega
theorem walkP_len : ∀ (f : Fm) (acc : List Fm), (walkP f acc).length ≤ acc.length + f.size
  | .sg i, acc => by
    rw [walkP]; split
    · omega
    · rw [List.length_append]; exact Nat.le_refl _
  | .no g, acc => by
    rw [walkP]
    have := walkP_len g (if Fm.no g ∈ acc then acc else acc ++ [.no g])
    have e : (if Fm.no g ∈ acc then acc else acc ++ [.no g]).length ≤ acc.length + 1 := by
      split
      · omega
      · rw [List.length_append]; exact Nat.le_refl _
    show _ ≤ acc.length + (g.size + 1)
    omega
  | .bi w g k, acc => by
    rw [walkP]
    have h1 := walkP_len g (if Fm.bi w g k ∈ acc then acc else acc ++ [.bi w g k])
    have h2 := walkP_len k (walkP g (if Fm.bi w g k ∈ acc then acc else acc ++ [.bi w g k]))
    have e : (if Fm.bi w g k ∈ acc then acc else acc ++ [.bi w g k]).length ≤ acc.length + 1 := by
      split
      · omega
      · rw [List.length_append]; exact Nat.le_refl _
    show _ ≤ acc.length + (g.size + k.size + 1)
    omega

/-! ### the texts -/
open PySem.Spec
open TL (tl tl_append tl_ofString ext_tl)
def isDig (c : Nat) : Bool := decide (48 ≤ c) && decide (c ≤ 57)
def digs (i : Int) : List Nat := (toString i).toList.map Char.toNat
def valD (l : List Nat) : Int := l.foldl (fun (a : Int) (c : Nat) => a * 10 + ((c : Int) - 48)) 0
/-- the text of a formula -/
def spS : Fm → Str
  | .sg i => (toString i : String)
  | .no f => ((((Str.empty ++ ("not" : Str)) ++ ("(" : Str)) ++ Txt.join ("," : Str) [spS f]) ++ (")" : Str))
  | .bi w f g => ((((Str.empty ++ w.txt) ++ ("(" : Str)) ++ Txt.join ("," : Str) [spS f, spS g]) ++ (")" : Str))
/-- its codes -/
def sp : Fm → List Nat
  | .sg i => digs i
  | .no f => tl ("not" : Str) ++ (40 :: (sp f ++ [41]))
  | .bi w f g => tl w.txt ++ (40 :: (sp f ++ (44 :: (sp g ++ [41]))))
theorem tl_empty : tl Str.empty = [] := rfl
theorem tl_open : tl ("(" : Str) = [40] := by decide +kernel
theorem tl_close : tl (")" : Str) = [41] := by decide +kernel
theorem tl_comma : tl ("," : Str) = [44] := by decide +kernel
theorem spS_tl : ∀ f : Fm, tl (spS f) = sp f
  | .sg i => tl_ofString (toString i)
  | .no f => by
    have h := spS_tl f
    have e : Txt.join ("," : Str) [spS f] = spS f := by rw [TL.join_eq]; rfl
    show tl ((((Str.empty ++ ("not" : Str)) ++ ("(" : Str)) ++ Txt.join ("," : Str) [spS f]) ++ (")" : Str)) = tl ("not" : Str) ++ (40 :: (sp f ++ [41]))
    rw [e, tl_append, tl_append, tl_append, tl_append, tl_empty, tl_open, tl_close, h]
    simp only [List.nil_append, List.append_assoc, List.cons_append]
  | .bi w f g => by
    have h := spS_tl f
    have h2 := spS_tl g
    have e : Txt.join ("," : Str) [spS f, spS g] = (spS f ++ ("," : Str)) ++ spS g := by rw [TL.join_eq]; rfl
    show tl ((((Str.empty ++ w.txt) ++ ("(" : Str)) ++ Txt.join ("," : Str) [spS f, spS g]) ++ (")" : Str)) = tl w.txt ++ (40 :: (sp f ++ (44 :: (sp g ++ [41]))))
    rw [e, tl_append, tl_append, tl_append, tl_append, tl_append, tl_append, tl_empty, tl_open, tl_close, tl_comma, h, h2]
    simp only [List.nil_append, List.append_assoc, List.cons_append]
theorem digs_all : ∀ n : Fin 100, ((digs ((n.val : Nat) : Int)).all isDig && !(digs ((n.val : Nat) : Int)).isEmpty && decide (valD (digs ((n.val : Nat) : Int)) = ((n.val : Nat) : Int)) && decide ((digs ((n.val : Nat) : Int)).length ≤ 2)) = true := by decide +kernel
theorem digs_of {i : Int} (h : 0 ≤ i ∧ i ≤ 99) : (digs i).all isDig = true ∧ (digs i) ≠ [] ∧ valD (digs i) = i ∧ (digs i).length ≤ 2 := by
  obtain ⟨n, rfl⟩ := Int.eq_ofNat_of_zero_le h.1
  have q := digs_all ⟨n, by omega⟩
  simp only [Bool.and_eq_true, decide_eq_true_eq] at q
  obtain ⟨⟨⟨q1, q2⟩, q3⟩, q4⟩ := q
  refine ⟨q1, fun z => ?_, q3, q4⟩
  have z' : digs ((n : Nat) : Int) = [] := z
  rw [z'] at q2
  exact absurd q2 (by decide)
/-- no digit ahead -/
def Nd (r : List Nat) : Prop := r.takeWhile isDig = []
theorem nd_cons {c : Nat} (h : isDig c = false) (r : List Nat) : Nd (c :: r) := by
  unfold Nd
  rw [List.takeWhile_cons, h]
  rfl
theorem take_dig : ∀ {l r : List Nat}, l.all isDig = true → Nd r → (l ++ r).takeWhile isDig = l
  | [], r, _, h => h
  | c :: l, r, h, hr => by
    rw [List.all_cons, Bool.and_eq_true] at h
    rw [List.cons_append, List.takeWhile_cons, h.1, if_pos rfl, take_dig h.2 hr]
theorem head_txt (w : Bw) : ∃ c r, tl w.txt = c :: r ∧ isDig c = false ∧ c ≠ 110 ∧ c = (match w with | .an => 97 | .o => 111 | .th => 116) := by
  cases w
  · exact ⟨97, [110, 100], by decide +kernel, by decide, by decide, rfl⟩
  · exact ⟨111, [114], by decide +kernel, by decide, by decide, rfl⟩
  · exact ⟨116, [104, 101, 110], by decide +kernel, by decide, by decide, rfl⟩
theorem tl_not : tl ("not" : Str) = [110, 111, 116] := by decide +kernel
theorem dig_head {i : Int} (h : 0 ≤ i ∧ i ≤ 99) : ∃ c r, digs i = c :: r ∧ isDig c = true := by
  obtain ⟨h1, h2, _, _⟩ := digs_of h
  cases e : digs i with
  | nil => exact absurd e h2
  | cons c r =>
    rw [e, List.all_cons, Bool.and_eq_true] at h1
    exact ⟨c, r, rfl, h1.1⟩
theorem sp_split : ∀ (f g : Fm) (r r' : List Nat), f.good → g.good → Nd r → Nd r' → sp f ++ r = sp g ++ r' → f = g ∧ r = r'
  | .sg i, .sg j, r, r', hf, hg, hr, hr', e => by
    obtain ⟨a1, _, a3, _⟩ := digs_of hf
    obtain ⟨b1, _, b3, _⟩ := digs_of hg
    have t := congrArg (List.takeWhile isDig) e
    rw [show sp (.sg i) = digs i from rfl, show sp (.sg j) = digs j from rfl, take_dig a1 hr, take_dig b1 hr'] at t
    have ij : i = j := by rw [← a3, ← b3, t]
    subst ij
    exact ⟨rfl, List.append_cancel_left e⟩
  | .no f, .no g, r, r', hf, hg, hr, hr', e => by
    have e1 : tl ("not" : Str) ++ (40 :: (sp f ++ [41])) ++ r = tl ("not" : Str) ++ (40 :: (sp g ++ [41])) ++ r' := e
    simp only [List.append_assoc, List.cons_append] at e1
    have e2 := List.append_cancel_left e1
    have e3 := (List.cons.inj e2).2
    obtain ⟨q1, q2⟩ := sp_split f g _ _ hf hg (nd_cons (by decide) _) (nd_cons (by decide) _) e3
    subst q1
    exact ⟨rfl, by simpa using q2⟩
  | .bi w f g, .bi v f' g', r, r', hf, hg, hr, hr', e => by
    have e1 : tl w.txt ++ (40 :: (sp f ++ (44 :: (sp g ++ [41])))) ++ r = tl v.txt ++ (40 :: (sp f' ++ (44 :: (sp g' ++ [41])))) ++ r' := e
    have hw : w = v := by
      obtain ⟨c, x, h1, _, _, h4⟩ := head_txt w
      obtain ⟨d, y, k1, _, _, k4⟩ := head_txt v
      rw [h1, k1] at e1
      have z := (List.cons.inj e1).1
      rw [h4, k4] at z
      cases w <;> cases v <;> first | rfl | exact absurd z (by decide)
    subst hw
    simp only [List.append_assoc, List.cons_append] at e1
    have e3 := (List.cons.inj (List.append_cancel_left e1)).2
    obtain ⟨q1, q2⟩ := sp_split f f' _ _ hf.1 hg.1 (nd_cons (by decide) _) (nd_cons (by decide) _) e3
    subst q1
    have e4 := (List.cons.inj q2).2
    obtain ⟨p1, p2⟩ := sp_split g g' _ _ hf.2 hg.2 (nd_cons (by decide) _) (nd_cons (by decide) _) e4
    subst p1
    exact ⟨rfl, by simpa using p2⟩
  | .sg i, .no g, r, r', hf, hg, hr, hr', e => by
    obtain ⟨c, x, h1, h2⟩ := dig_head hf
    rw [show sp (.sg i) = digs i from rfl, show sp (.no g) = tl ("not" : Str) ++ (40 :: (sp g ++ [41])) from rfl, h1, tl_not] at e
    have z := (List.cons.inj e).1
    rw [z] at h2
    exact absurd h2 (by decide)
  | .no g, .sg i, r, r', hg, hf, hr, hr', e => by
    obtain ⟨c, x, h1, h2⟩ := dig_head hf
    rw [show sp (.sg i) = digs i from rfl, show sp (.no g) = tl ("not" : Str) ++ (40 :: (sp g ++ [41])) from rfl, h1, tl_not] at e
    have z := (List.cons.inj e).1
    rw [← z] at h2
    exact absurd h2 (by decide)
  | .sg i, .bi w f g, r, r', hf, hg, hr, hr', e => by
    obtain ⟨c, x, h1, h2⟩ := dig_head hf
    obtain ⟨d, y, k1, k2, _, _⟩ := head_txt w
    rw [show sp (.sg i) = digs i from rfl, show sp (.bi w f g) = tl w.txt ++ (40 :: (sp f ++ (44 :: (sp g ++ [41])))) from rfl, h1, k1] at e
    have z := (List.cons.inj e).1
    rw [z, k2] at h2
    cases h2
  | .bi w f g, .sg i, r, r', hg, hf, hr, hr', e => by
    obtain ⟨c, x, h1, h2⟩ := dig_head hf
    obtain ⟨d, y, k1, k2, _, _⟩ := head_txt w
    rw [show sp (.sg i) = digs i from rfl, show sp (.bi w f g) = tl w.txt ++ (40 :: (sp f ++ (44 :: (sp g ++ [41])))) from rfl, h1, k1] at e
    have z := (List.cons.inj e).1
    rw [← z, k2] at h2
    cases h2
  | .no f', .bi w f g, r, r', hf, hg, hr, hr', e => by
    obtain ⟨d, y, k1, _, k3, _⟩ := head_txt w
    rw [show sp (.no f') = tl ("not" : Str) ++ (40 :: (sp f' ++ [41])) from rfl, show sp (.bi w f g) = tl w.txt ++ (40 :: (sp f ++ (44 :: (sp g ++ [41])))) from rfl, tl_not, k1] at e
    exact absurd (List.cons.inj e).1.symm k3
  | .bi w f g, .no f', r, r', hf, hg, hr, hr', e => by
    obtain ⟨d, y, k1, _, k3, _⟩ := head_txt w
    rw [show sp (.no f') = tl ("not" : Str) ++ (40 :: (sp f' ++ [41])) from rfl, show sp (.bi w f g) = tl w.txt ++ (40 :: (sp f ++ (44 :: (sp g ++ [41])))) from rfl, tl_not, k1] at e
    exact absurd (List.cons.inj e).1 k3
theorem spS_inj {f g : Fm} (hf : f.good) (hg : g.good) (e : spS f = spS g) : f = g := by
  have e1 : sp f ++ [] = sp g ++ [] := by rw [← spS_tl, ← spS_tl, e]
  exact (sp_split f g [] [] hf hg rfl rfl e1).1
theorem txt_len (w : Bw) : (tl w.txt).length ≤ 4 := by cases w <;> decide +kernel
theorem sp_len : ∀ {f : Fm}, f.good → (sp f).length + 7 ≤ 9 * 2 ^ (f.dep - 1)
  | .sg i, h => by
    have q := (digs_of h).2.2.2
    show (digs i).length + 7 ≤ 9 * 2 ^ (1 - 1)
    simp only [Nat.sub_self, Nat.pow_zero]
    omega
  | .no f, h => by
    have q := sp_len (f := f) h
    have hp := Fm.dep_pos f
    have e : f.dep + 1 - 1 = (f.dep - 1) + 1 := by omega
    show (tl ("not" : Str) ++ (40 :: (sp f ++ [41]))).length + 7 ≤ 9 * 2 ^ (f.dep + 1 - 1)
    rw [e, Nat.pow_succ, tl_not]
    simp only [List.length_append, List.length_cons, List.length_nil]
    have pos : 1 ≤ 2 ^ (f.dep - 1) := Nat.one_le_two_pow
    omega
  | .bi w f g, h => by
    have q1 := sp_len (f := f) h.1
    have q2 := sp_len (f := g) h.2
    have hp := Fm.dep_pos f
    have hq := Fm.dep_pos g
    have m1 : 2 ^ (f.dep - 1) ≤ 2 ^ (max f.dep g.dep - 1) := Nat.pow_le_pow_right (by decide) (by omega)
    have m2 : 2 ^ (g.dep - 1) ≤ 2 ^ (max f.dep g.dep - 1) := Nat.pow_le_pow_right (by decide) (by omega)
    have e : max f.dep g.dep + 1 - 1 = (max f.dep g.dep - 1) + 1 := by omega
    have t := txt_len w
    show (tl w.txt ++ (40 :: (sp f ++ (44 :: (sp g ++ [41]))))).length + 7 ≤ 9 * 2 ^ (max f.dep g.dep + 1 - 1)
    rw [e, Nat.pow_succ]
    simp only [List.length_append, List.length_cons, List.length_nil]
    omega
theorem spS_len {f : Fm} (h : f.good) (hd : f.dep ≤ 12) : (spS f).length ≤ 18500 := by
  have q := sp_len h
  have m : 2 ^ (f.dep - 1) ≤ 2 ^ 11 := Nat.pow_le_pow_right (by decide) (by omega)
  rw [TL.len_tl, spS_tl]
  have e : (2 : Nat) ^ 11 = 2048 := by decide
  omega
end Lm
set_option Elab.async false
set_option linter.all false
set_option maxRecDepth 100000
set_option maxHeartbeats 2000000
/-! formulas in the heap, rules that lacked, promises of the program's defs -/
namespace Lm
open PySem PySem.Spec PyProof.Rows L2

/-! ### heaps -/
theorem sqT_same {K : PySem.W.Frag} {H H' : Hp} {a : Addr} {xs : List V} (e : Same H H') (h : SqT K H a xs) : SqT K H' a xs := by
  rcases h with (h | ⟨o, h⟩) | h
  · exact .inl (.inl (e _ _ h))
  · exact .inl (.inr ⟨o, e _ _ h⟩)
  · exact .inr h
theorem same_new {H : Hp} {p : Addr} (h : H p = none) (o : HO) : Same H (upd H p o) := fun b u q => by rw [upd_ne (ne_of_none q h)]; exact q
theorem same_upd {H1 H : Hp} {D : Addr} {o : HO} (e : Same H1 H) (n : H1 D = none) : Same H1 (upd H D o) := fun b u q => by
  rw [upd_ne (ne_of_none q n)]
  exact e b u q
/-- all but what stands at a is as it was -/
def But (a : Addr) (H H' : Hp) : Prop := ∀ b o, H b = some o → b ≠ a → H' b = some o
theorem But.refl (a : Addr) (H : Hp) : But a H H := fun _ _ h _ => h
theorem But.trans {a : Addr} {H H1 H2 : Hp} (x : But a H H1) (y : But a H1 H2) : But a H H2 := fun b o h n => y b o (x b o h n) n
theorem Same.but {H H' : Hp} (e : Same H H') (a : Addr) : But a H H' := fun b o h _ => e b o h
theorem But.upd (a : Addr) (H : Hp) (o : HO) : But a H (upd H a o) := fun b u h n => by rw [upd_ne n]; exact h
/-- the tuples stand -/
def Tk (K : PySem.W.Frag) (H H' : Hp) : Prop := ∀ b xs, SqT K H b xs → SqT K H' b xs
theorem Tk.of_same {K : PySem.W.Frag} {H H' : Hp} (e : Same H H') : Tk K H H' := fun _ _ h => sqT_same e h
theorem Tk.of_but {K : PySem.W.Frag} {H H' : Hp} {a : Addr} (e : But a H H') (h : (∃ xs, H a = some (.lst xs)) ∨ (∃ kvs, H a = some (.dK kvs)) ∨ H a = none) : Tk K H H' := fun b xs q => by
  have nt : ∀ ys, H a ≠ some (.tup ys) := fun ys z => by
    rcases h with ⟨x, h⟩ | ⟨x, h⟩ | h <;> (rw [h] at z; cases z)
  have nf : ∀ o ys, H a ≠ some (.frz o (.tup ys)) := fun o ys z => by
    rcases h with ⟨x, h⟩ | ⟨x, h⟩ | h <;> (rw [h] at z; cases z)
  rcases q with (q | ⟨o, q⟩) | q
  · exact .inl (.inl (e _ _ q fun z => nt xs (z ▸ q)))
  · exact .inl (.inr ⟨o, e _ _ q fun z => nf o xs (z ▸ q)⟩)
  · exact .inr q

/-! ### data in the heap -/
mutual
theorem dp_same {K : PySem.W.Frag} {H H' : Hp} (e : Same H H') : ∀ (d : PyData) (v : V), Dp K H v d → Dp K H' v d
  | .none, _, h => by cases h; exact .non
  | .bool b, _, h => by cases h; exact .bl b
  | .int i, _, h => by cases h; exact .int i
  | .str x, _, h => by cases h; exact .str x
  | .list ds, _, h => by
    cases h with
    | lst hs ha => exact .lst (e.seq hs) (dpAll_same e ds _ ha)
  | .tuple ds, _, h => by
    cases h with
    | tup hs ha => exact .tup (sqT_same e hs) (dpAll_same e ds _ ha)
  | .dict _, _, h => by cases h
theorem dpAll_same {K : PySem.W.Frag} {H H' : Hp} (e : Same H H') : ∀ (ds : List PyData) (vs : List V), DpAll K H vs ds → DpAll K H' vs ds
  | [], _, h => by cases h; exact .nil
  | d :: ds, _, h => by
    cases h with
    | cons h1 h2 => exact .cons (dp_same e d _ h1) (dpAll_same e ds _ h2)
end
theorem dpAll_len {K : PySem.W.Frag} {H : Hp} : ∀ {ds : List PyData} {vs : List V}, DpAll K H vs ds → vs.length = ds.length
  | [], _, h => by cases h; rfl
  | d :: ds, _, h => by
    cases h with
    | cons h1 h2 => rw [List.length_cons, List.length_cons, dpAll_len h2]
theorem dpAll_get {K : PySem.W.Frag} {H : Hp} : ∀ {ds : List PyData} {vs : List V} {i : Nat} {v : V}, DpAll K H vs ds → vs[i]? = some v → ∃ d, ds[i]? = some d ∧ Dp K H v d
  | [], _, i, v, h, e => by cases h; cases e
  | d :: ds, _, 0, v, h, e => by
    cases h with
    | cons h1 h2 => exact ⟨d, rfl, (Option.some.inj e) ▸ h1⟩
  | d :: ds, _, i + 1, v, h, e => by
    cases h with
    | cons h1 h2 => exact dpAll_get (i := i) h2 e
theorem dpAll_app {K : PySem.W.Frag} {H : Hp} : ∀ {ds es : List PyData} {vs ws : List V}, DpAll K H vs ds → DpAll K H ws es → DpAll K H (vs ++ ws) (ds ++ es)
  | [], _, _, _, h, k => by cases h; exact k
  | d :: ds, es, _, ws, h, k => by
    cases h with
    | cons h1 h2 => exact .cons h1 (dpAll_app h2 k)
theorem dpAll_ints {K : PySem.W.Frag} {H : Hp} : ∀ ns : List Int, DpAll K H (ns.map V.int) (ns.map PyData.int)
  | [] => .nil
  | n :: ns => .cons (.int n) (dpAll_ints ns)
/-! formulas -/
section
variable {K : PySem.W.Frag} {H H' : Hp} {v : V}
theorem dp_sg {i : Int} (h : Dp K H v (Fm.sg i).toD) : ∃ a, v = .ref a ∧ SqT K H a [.str ("sign" : Str), .int i] := by
  have h : Dp K H v (.tuple [.str ("sign" : Str), .int i]) := h
  cases h with
  | tup hs ha =>
    cases ha with
    | cons h1 h2 =>
      cases h1
      cases h2 with
      | cons h3 h4 =>
        cases h3
        cases h4
        exact ⟨_, rfl, hs⟩
theorem dp_no {f : Fm} (h : Dp K H v (Fm.no f).toD) : ∃ a x, v = .ref a ∧ SqT K H a [.str ("not" : Str), x] ∧ Dp K H x f.toD := by
  have h : Dp K H v (.tuple [.str ("not" : Str), f.toD]) := h
  cases h with
  | tup hs ha =>
    cases ha with
    | cons h1 h2 =>
      cases h1
      cases h2 with
      | cons h3 h4 =>
        cases h4
        exact ⟨_, _, rfl, hs, h3⟩
theorem dp_bi {w : Bw} {f g : Fm} (h : Dp K H v (Fm.bi w f g).toD) : ∃ a x y, v = .ref a ∧ SqT K H a [.str w.txt, x, y] ∧ Dp K H x f.toD ∧ Dp K H y g.toD := by
  have h : Dp K H v (.tuple [.str w.txt, f.toD, g.toD]) := h
  cases h with
  | tup hs ha =>
    cases ha with
    | cons h1 h2 =>
      cases h1
      cases h2 with
      | cons h3 h4 =>
        cases h4 with
        | cons h5 h6 =>
          cases h6
          exact ⟨_, _, _, rfl, hs, h3, h5⟩
theorem mk_sg {a : Addr} {i : Int} (h : SqT K H a [.str ("sign" : Str), .int i]) : Dp K H (.ref a) (Fm.sg i).toD := .tup h (.cons (.str _) (.cons (.int _) .nil))
theorem mk_no {a : Addr} {x : V} {f : Fm} (h : SqT K H a [.str ("not" : Str), x]) (hx : Dp K H x f.toD) : Dp K H (.ref a) (Fm.no f).toD := .tup h (.cons (.str _) (.cons hx .nil))
theorem mk_bi {a : Addr} {w : Bw} {x y : V} {f g : Fm} (h : SqT K H a [.str w.txt, x, y]) (hx : Dp K H x f.toD) (hy : Dp K H y g.toD) : Dp K H (.ref a) (Fm.bi w f g).toD := .tup h (.cons (.str _) (.cons hx (.cons hy .nil)))
/-- a formula stands while the tuples stand -/
theorem fm_keep (t : Tk K H H') : ∀ (f : Fm) (v : V), Dp K H v f.toD → Dp K H' v f.toD
  | .sg i, v, h => by
    obtain ⟨a, rfl, hs⟩ := dp_sg h
    exact mk_sg (t _ _ hs)
  | .no f, v, h => by
    obtain ⟨a, x, rfl, hs, hx⟩ := dp_no h
    exact mk_no (t _ _ hs) (fm_keep t f x hx)
  | .bi w f g, v, h => by
    obtain ⟨a, x, y, rfl, hs, hx, hy⟩ := dp_bi h
    exact mk_bi (t _ _ hs) (fm_keep t f x hx) (fm_keep t g y hy)
theorem fms_keep (t : Tk K H H') : ∀ (fs : List Fm) (vs : List V), DpAll K H vs (fs.map Fm.toD) → DpAll K H' vs (fs.map Fm.toD)
  | [], _, h => by cases h; exact .nil
  | f :: fs, _, h => by
    have h : DpAll K H _ (f.toD :: fs.map Fm.toD) := h
    cases h with
    | cons h1 h2 => exact .cons (fm_keep t f _ h1) (fms_keep t fs _ h2)
end

/-! ### what a thing is -/
def tyD : PyData → String
  | .none => "NoneType"
  | .bool _ => "bool"
  | .int _ => "int"
  | .str _ => "str"
  | .list _ => "list"
  | .tuple _ => "tuple"
  | .dict _ => "dict"
theorem tyx_of {K : PySem.W.Frag} {H : Hp} {v : V} {d : PyData} (h : Dp K H v d) : TyX K H v (.type (tyD d)) := by
  cases h with
  | non => exact .base .non
  | bl b => exact .base (.bl b)
  | int i => exact .base (.int i)
  | str x => exact .base (.str x)
  | lst hs _ =>
    rcases hs with (hs | ⟨o, hs⟩) | ⟨o, its, n, hk, hc, _⟩
    · exact .base (.lst hs)
    · exact .base (.frz hs)
    · exact .kList hk hc
  | tup hs _ =>
    rcases hs with (hs | ⟨o, hs⟩) | ⟨o, its, n, hk, hc, _⟩
    · exact .base (.tup hs)
    · exact .fTuple hs
    · exact .kTuple hk hc
def isIB : PyData → Bool
  | .int _ => true
  | .bool _ => true
  | _ => false
def isBl : PyData → Bool
  | .bool _ => true
  | _ => false
def isSt : PyData → Bool
  | .str _ => true
  | _ => false
def isTu : PyData → Bool
  | .tuple _ => true
  | _ => false
def isLi : PyData → Bool
  | .list _ => true
  | _ => false
theorem kit_int {K : PySem.W.Frag} {H : Hp} {v : V} {d : PyData} (h : Dp K H v d) : PySem.W.kitOne K (.type (tyD d)) (.type "int") = some (isIB d) := by
  cases h with
  | non => exact kit_ty (show kitB "NoneType" "int" = some false from by decide +kernel)
  | bl b => exact kit_ty (show kitB "bool" "int" = some true from by decide +kernel)
  | int i => exact kit_ty (show kitB "int" "int" = some true from by decide +kernel)
  | str x => exact kit_ty (show kitB "str" "int" = some false from by decide +kernel)
  | lst _ _ => exact kit_ty (show kitB "list" "int" = some false from by decide +kernel)
  | tup _ _ => exact kit_ty (show kitB "tuple" "int" = some false from by decide +kernel)
theorem kit_bool {K : PySem.W.Frag} {H : Hp} {v : V} {d : PyData} (h : Dp K H v d) : PySem.W.kitOne K (.type (tyD d)) (.type "bool") = some (isBl d) := by
  cases h with
  | non => exact kit_ty (show kitB "NoneType" "bool" = some false from by decide +kernel)
  | bl b => exact kit_ty (show kitB "bool" "bool" = some true from by decide +kernel)
  | int i => exact kit_ty (show kitB "int" "bool" = some false from by decide +kernel)
  | str x => exact kit_ty (show kitB "str" "bool" = some false from by decide +kernel)
  | lst _ _ => exact kit_ty (show kitB "list" "bool" = some false from by decide +kernel)
  | tup _ _ => exact kit_ty (show kitB "tuple" "bool" = some false from by decide +kernel)
theorem kit_str {K : PySem.W.Frag} {H : Hp} {v : V} {d : PyData} (h : Dp K H v d) : PySem.W.kitOne K (.type (tyD d)) (.type "str") = some (isSt d) := by
  cases h with
  | non => exact kit_ty (show kitB "NoneType" "str" = some false from by decide +kernel)
  | bl b => exact kit_ty (show kitB "bool" "str" = some false from by decide +kernel)
  | int i => exact kit_ty (show kitB "int" "str" = some false from by decide +kernel)
  | str x => exact kit_ty (show kitB "str" "str" = some true from by decide +kernel)
  | lst _ _ => exact kit_ty (show kitB "list" "str" = some false from by decide +kernel)
  | tup _ _ => exact kit_ty (show kitB "tuple" "str" = some false from by decide +kernel)
theorem kit_tuple {K : PySem.W.Frag} {H : Hp} {v : V} {d : PyData} (h : Dp K H v d) : PySem.W.kitOne K (.type (tyD d)) (.type "tuple") = some (isTu d) := by
  cases h with
  | non => exact kit_ty (show kitB "NoneType" "tuple" = some false from by decide +kernel)
  | bl b => exact kit_ty (show kitB "bool" "tuple" = some false from by decide +kernel)
  | int i => exact kit_ty (show kitB "int" "tuple" = some false from by decide +kernel)
  | str x => exact kit_ty (show kitB "str" "tuple" = some false from by decide +kernel)
  | lst _ _ => exact kit_ty (show kitB "list" "tuple" = some false from by decide +kernel)
  | tup _ _ => exact kit_ty (show kitB "tuple" "tuple" = some true from by decide +kernel)
theorem kit_list {K : PySem.W.Frag} {H : Hp} {v : V} {d : PyData} (h : Dp K H v d) : PySem.W.kitOne K (.type (tyD d)) (.type "list") = some (isLi d) := by
  cases h with
  | non => exact kit_ty (show kitB "NoneType" "list" = some false from by decide +kernel)
  | bl b => exact kit_ty (show kitB "bool" "list" = some false from by decide +kernel)
  | int i => exact kit_ty (show kitB "int" "list" = some false from by decide +kernel)
  | str x => exact kit_ty (show kitB "str" "list" = some false from by decide +kernel)
  | lst _ _ => exact kit_ty (show kitB "list" "list" = some true from by decide +kernel)
  | tup _ _ => exact kit_ty (show kitB "tuple" "list" = some false from by decide +kernel)

/-! ### rules that lacked -/
/-- list(d.values()) -/
def tListVals (te : TE) : TE := fun σ H Q => te σ H fun x H1 => ∃ (d : Addr) (kvs : List (Key × V)), x = .ref d ∧ H1 d = some (.dK kvs) ∧ ∀ p, H1 p = none → Q (.ref p) (upd H1 p (.lst (kvs.map (·.2))))
theorem kv_vals : ∀ {kvs : List (Key × V)} {vs : List (Key × Value)}, KV kvs vs → Vals (kvs.map (·.2)) (vs.map (·.2))
  | _, _, .nil => .nil
  | _, _, .cons h t => .cons h.2 (kv_vals t)
section
variable {X : Cx} {e : Expr} {te : TE} {p apos cpos pos : Pos}
theorem pe_listVals (hc : X.calm = true) (he : PE X e te) (hg : Gl X "list") (hm : X.mg "list" = none) (hv : bootBuiltins "list" = some (.type "list")) (hbase : attributeBase e "values" X.env (eval e X.env) = eval e X.env := by rfl) (hline : (apos.endLine == cpos.line) = true := by rfl)
    (hs : starEach [.Call (.Attribute e "values" apos) [] [] cpos] X.env = (false, eval (.Call (.Attribute e "values" apos) [] [] cpos) X.env) :: starEach [] X.env := by rfl) :
    PE X (.Call (.Name "list" p) [.Call (.Attribute e "values" apos) [] [] cpos] [] pos) (tListVals te) := by
  refine ⟨fun pins s σ H Q I hq => ?_⟩
  refine wpAny_Call_Name_kw (ld_blt I hg hm hv ?_)
  refine PyProof.Rows.callWith_type1 ?_ hs rfl
  rw [hs]
  show wpAny _ _ (spliced ((false, eval (.Call (.Attribute e "values" apos) [] [] cpos) X.env) :: backTo pos (starEach [] X.env))) _ _ s
  refine Calls.spliced_cons ?_
  refine wpAny_Call_method (T := "dict") (id := "dict.values") hbase rfl hline F.plainAttrs_dict F.slot_dict_values F.type_dict_values (thn (he.run pins s σ H _ I hq) fun u s1 ⟨x, H1, I1, rx, d, kvs, ex, hd, q⟩ => ?_)
  subst ex
  obtain rfl : u = Value.ref d := rx
  obtain ⟨hz, hs0, vs, kv, hdo⟩ := I1.hok d _ hd
  obtain ⟨ep, hat⟩ := hdo.dictAt
  have lk : kvs.length = vs.length := Paired.length kv
  have I2 : Inv X pins σ H1 { s1 with heap := s1.heap.push { cls := .type "dict_values", data := .fields #[.ref d] } } := I1.kept (t' := s1.toks) fun b ob q => Heap.get?_push_of_some _ q
  refine ⟨hdo.typeIs, hdo.mapOf.noDict, ?_⟩
  show wpAny _ _ (callWith cpos (.builtin "dict.values") [.ref d] [] []) _ X.xe s1
  refine method_meetsIn F.slot_dict_values F.entry_dict_values rfl (PySem.evalArgs_none ⟨rfl, hdo.typeIs, F.args_dict_values_1 _, _, meets_dict_values (mixKind X.prog X.w) d hs0, ⟨vs, hdo⟩, ?_⟩)
  refine Calls.spliced_nil ?_
  refine PySem.W.kdl_call (PySem.W.kdl_values (knd := mixKind X.prog X.w) (kvs := vs) (ep := ep) (d := d)) (I1.ok.hd hc) ⟨⟨_, Heap.get?_push_size _ rfl, rfl, rfl⟩, hat.push _⟩ (by omega) fun h' tk acc c hk hS hacc => ?_
  have e0 : acc.toList = vs.map (·.2) := PySem.W.kdl_vals_eq acc.toList (by rw [Array.length_toList]; exact hacc.1) fun j v ev => hacc.2 j v (by rw [← Array.getElem?_toList]; exact ev)
  have ob : ObjOk X.prog X.w (upd H1 (s1.heap.push { cls := .type "dict_values", data := .fields #[.ref d] }).objs.size (.lst (kvs.map (·.2)))) h' (s1.heap.push { cls := .type "dict_values", data := .fields #[.ref d] }).objs.size (.lst (kvs.map (·.2))) := by
    refine ⟨by rw [List.length_map]; omega, acc.toList, c, by rw [e0]; exact kv_vals kv, ?_⟩
    rw [Array.toArray_toList]
    exact hS
  exact ⟨.ref _, _, I2.laid (t' := tk) hk (Nat.le_refl _) ob, rfl, q _ (I2.hok.fresh (Nat.le_refl _))⟩
end
/-- a dict comprehension over a list that stays -/
theorem dc_list {K : PySem.W.Frag} {a : Addr} {xs : List V} {g : TG} {tt : TT} {tk tv : TE} {vs : List Nat} {σ : L2.St} {H1 : Hp} {D : Addr} {Qd : Hp → Prop} (Pv : Nat → Hp → Prop) (h0 : Pv 0 (upd H1 D (.dK []))) (hl : ∀ i H, i ≤ xs.length → Pv i H → SqL K H a xs)
    (hs : ∀ i x H, xs[i]? = some x → Pv i H → g x (wipe σ vs) H fun σ2 H2 => wipe σ2 vs = wipe σ vs ∧ tt σ2 H2 fun b H3 =>
      if b = true then tk σ2 H3 fun y H4 => tv σ2 H4 fun z H5 => ∃ kvs k, y = kV k ∧ H5 D = some (.dK kvs) ∧ kvs.length < sizeLine ∧ Pv (i + 1) (upd H5 D (.dK (putK kvs k z))) else Pv (i + 1) H3) (hd : ∀ H, Pv xs.length H → Qd H) :
    ∃ W : Nat → Nat → Hp → Prop, (∃ m, W 0 m (upd H1 D (.dK []))) ∧ ∀ i m H, W i m H →
      ((Itl K a).stop i H ∧ Qd H) ∨ ((Itl K a).go i H ∧ ∃ Nx : Hp → Prop, (∀ H', Nx H' → ∃ m', m' < m ∧ W (i + 1) m' H') ∧ ∀ x H', (Itl K a).yld i H x H' → g x (wipe σ vs) H' fun σ2 H2 => wipe σ2 vs = wipe σ vs ∧ tt σ2 H2 fun b H3 =>
        if b = true then tk σ2 H3 fun y H4 => tv σ2 H4 fun z H5 => ∃ kvs k, y = kV k ∧ H5 D = some (.dK kvs) ∧ kvs.length < sizeLine ∧ Nx (upd H5 D (.dK (putK kvs k z))) else Nx H3) := by
  refine ⟨fun i m H => m = xs.length - i ∧ i ≤ xs.length ∧ Pv i H, ⟨xs.length, by simp, Nat.zero_le _, h0⟩, ?_⟩
  rintro i m H ⟨rfl, hi, p⟩
  have q := hl i H hi p
  by_cases hlt : i < xs.length
  · refine .inr ⟨⟨xs, xs[i], q, by simp [hlt]⟩, Pv (i + 1), fun H' p' => ⟨xs.length - (i + 1), by omega, rfl, hlt, p'⟩, fun x H' y => ?_⟩
    obtain ⟨e, y⟩ := y
    subst e
    exact hs i x _ (y xs q) p
  · have e : i = xs.length := by omega
    subst e
    exact .inl ⟨⟨xs, q, Nat.le_refl _⟩, hd H p⟩
theorem wipe1 (σ : L2.St) (j : Nat) (x : Option V) : wipe ((wipe σ [j]).set j x) [j] = wipe σ [j] := by
  show (((σ.set j none).set j x).set j none) = σ.set j none
  rw [List.set_set, List.set_set]
/-- [e for x in t], t a tuple, where each item gives its value and nothing that stood is changed -/
theorem lc_map_tup {K : PySem.W.Frag} {a : Addr} {xs ys : List V} {te : TE} {j : Nat} {σ : L2.St} {H1 : Hp} {D : Addr} {Qd : Hp → Prop} (hx : SqT K H1 a xs) (hD : H1 D = none) (hl : ys.length = xs.length) (hz : ys.length ≤ sizeLine)
    (el : ∀ (i : Nat) (x y : V) (H' : Hp), xs[i]? = some x → ys[i]? = some y → Same H1 H' → ∀ Q : VK, (∀ H'', Same H' H'' → Q y H'') → te ((wipe σ [j]).set j (some x)) H' Q)
    (hd : ∀ H', Same H1 H' → H' D = some (.lst ys) → Qd H') :
    ∃ W : Nat → Nat → Hp → Prop, (∃ m, W 0 m (upd H1 D (.lst []))) ∧ ∀ i m H, W i m H →
      ((Itt K a).stop i H ∧ Qd H) ∨ ((Itt K a).go i H ∧ ∃ Nx : Hp → Prop, (∀ H', Nx H' → ∃ m', m' < m ∧ W (i + 1) m' H') ∧ ∀ x H', (Itt K a).yld i H x H' → gName j x (wipe σ [j]) H' fun σ2 H2 => wipe σ2 [j] = wipe σ [j] ∧ tYes σ2 H2 fun b H3 =>
        if b = true then te σ2 H3 fun y H4 => ∃ acc, H4 D = some (.lst acc) ∧ acc.length < sizeLine ∧ Nx (upd H4 D (.lst (acc ++ [y]))) else Nx H3) := by
  refine lc_tup (K := K) (a := a) (xs := xs) (fun i H => Same H1 H ∧ H D = some (.lst (ys.take i))) ⟨same_new hD _, by rw [upd_same]; rfl⟩ (fun i H _ p => sqT_same p.1 hx) (fun i x H hi p => ?_) (fun H p => ?_)
  · have hi2 : i < xs.length := (List.getElem?_eq_some_iff.mp hi).1
    have hy : ys[i]? = some ys[i] := List.getElem?_eq_getElem (by omega)
    refine ⟨wipe1 _ _ _, ?_⟩
    show te ((wipe σ [j]).set j (some x)) H _
    refine el i x _ H hi hy p.1 _ fun H'' e => ?_
    refine ⟨ys.take i, e _ _ p.2, by rw [List.length_take]; omega, same_upd (p.1.trans e) hD, ?_⟩
    rw [upd_same, List.take_succ, hy]
    rfl
  · obtain ⟨p1, p2⟩ := p
    rw [← hl, List.take_length] at p2
    exact hd H p1 p2
/-- .. a list -/
theorem lc_map_list {K : PySem.W.Frag} {a : Addr} {xs ys : List V} {te : TE} {j : Nat} {σ : L2.St} {H1 : Hp} {D : Addr} {Qd : Hp → Prop} (hx : SqL K H1 a xs) (hD : H1 D = none) (hl : ys.length = xs.length) (hz : ys.length ≤ sizeLine)
    (el : ∀ (i : Nat) (x y : V) (H' : Hp), xs[i]? = some x → ys[i]? = some y → Same H1 H' → ∀ Q : VK, (∀ H'', Same H' H'' → Q y H'') → te ((wipe σ [j]).set j (some x)) H' Q)
    (hd : ∀ H', Same H1 H' → H' D = some (.lst ys) → Qd H') :
    ∃ W : Nat → Nat → Hp → Prop, (∃ m, W 0 m (upd H1 D (.lst []))) ∧ ∀ i m H, W i m H →
      ((Itl K a).stop i H ∧ Qd H) ∨ ((Itl K a).go i H ∧ ∃ Nx : Hp → Prop, (∀ H', Nx H' → ∃ m', m' < m ∧ W (i + 1) m' H') ∧ ∀ x H', (Itl K a).yld i H x H' → gName j x (wipe σ [j]) H' fun σ2 H2 => wipe σ2 [j] = wipe σ [j] ∧ tYes σ2 H2 fun b H3 =>
        if b = true then te σ2 H3 fun y H4 => ∃ acc, H4 D = some (.lst acc) ∧ acc.length < sizeLine ∧ Nx (upd H4 D (.lst (acc ++ [y]))) else Nx H3) := by
  refine lc_list (K := K) (a := a) (xs := xs) (fun i H => Same H1 H ∧ H D = some (.lst (ys.take i))) ⟨same_new hD _, by rw [upd_same]; rfl⟩ (fun i H _ p => p.1.seq hx) (fun i x H hi p => ?_) (fun H p => ?_)
  · have hi2 : i < xs.length := (List.getElem?_eq_some_iff.mp hi).1
    have hy : ys[i]? = some ys[i] := List.getElem?_eq_getElem (by omega)
    refine ⟨wipe1 _ _ _, ?_⟩
    show te ((wipe σ [j]).set j (some x)) H _
    refine el i x _ H hi hy p.1 _ fun H'' e => ?_
    refine ⟨ys.take i, e _ _ p.2, by rw [List.length_take]; omega, same_upd (p.1.trans e) hD, ?_⟩
    rw [upd_same, List.take_succ, hy]
    rfl
  · obtain ⟨p1, p2⟩ := p
    rw [← hl, List.take_length] at p2
    exact hd H p1 p2
theorem sl1000 {n : Nat} (h : n ≤ 100000) : n ≤ sizeLine := Nat.le_trans h (by rw [sizeLine_eq]; decide)
theorem sl1001 {n : Nat} (h : n < 100000) : n < sizeLine := Nat.lt_of_lt_of_le h (by rw [sizeLine_eq]; decide)
theorem cut1 (x y : V) : cutV [x, y] (some 1) none = [y] := rfl
theorem cut2 (x y z : V) : cutV [x, y, z] (some 1) none = [y, z] := rfl
theorem cut1a (x : V) (xs : List V) : cutV (x :: xs) (some 1) none = xs := by
  unfold cutV
  have e1 : HT.sIx (x :: xs).length 0 (some 1) = 1 := by
    rw [show (some (1 : Int)) = some ((1 : Nat) : Int) from rfl, HT.sIx_nat, List.length_cons]
    omega
  have e2 : HT.sIx (x :: xs).length (x :: xs).length none = (x :: xs).length := rfl
  rw [e1, e2, List.length_cons, List.drop_succ_cons, List.drop_zero, Nat.add_sub_cancel, List.take_length]
theorem cutNot (x : V) (xs : List V) : ¬ (HT.sIx (x :: xs).length 0 (some 1) = 0 ∧ HT.sIx (x :: xs).length (x :: xs).length none = (x :: xs).length) := by
  intro z
  have e1 : HT.sIx (x :: xs).length 0 (some 1) = 1 := by
    rw [show (some (1 : Int)) = some ((1 : Nat) : Int) from rfl, HT.sIx_nat, List.length_cons]
    omega
  rw [e1] at z
  exact absurd z.1 (by decide)
end Lm
set_option Elab.async false
set_option linter.all false
set_option maxRecDepth 100000
set_option maxHeartbeats 2000000
namespace Lm
open PySem PySem.Spec PyProof.Rows L2
/-! ### what is a formula: the mirror of is_formula -/
def isNum : PyData → Bool
  | .int _ => true
  | _ => false
def isSg : PyData → Bool
  | .int i => decide (0 ≤ i) && decide (i ≤ 99)
  | _ => false
def arOf (x : Str) : Option Int :=
  if x = ("not" : Str) then some 1 else if x = ("and" : Str) then some 2 else if x = ("or" : Str) then some 2 else if x = ("then" : Str) then some 2 else none
def sgOf : List PyData → Bool
  | [d] => isSg d
  | _ => false
def isF : Nat → PyData → Bool
  | n + 1, .tuple (.str x :: ds) =>
    if x = ("sign" : Str) then sgOf ds
    else match arOf x with
      | none => false
      | some k => decide (((ds.length + 1 : Nat) : Int) = 1 + k) && (ds.map (isF n)).all id
  | _, _ => false
theorem isF_zero (d : PyData) : isF 0 d = false := by cases d <;> rfl
theorem isF_toD : ∀ (f : Fm) (n : Nat), f.good → f.dep ≤ n → isF n f.toD = true
  | .sg i, n, h, hd => by
    cases n with
    | zero => exact absurd hd (by show ¬ 1 ≤ 0; decide)
    | succ n =>
      show (if ("sign" : Str) = ("sign" : Str) then (decide (0 ≤ i) && decide (i ≤ 99)) else _) = true
      rw [if_pos rfl, decide_eq_true h.1, decide_eq_true h.2]
      rfl
  | .no f, n, h, hd => by
    cases n with
    | zero => exact absurd hd (by show ¬ f.dep + 1 ≤ 0; omega)
    | succ n =>
      have q := isF_toD f n h (by have hd : f.dep + 1 ≤ n + 1 := hd; omega)
      have e1 : ¬ ("not" : Str) = ("sign" : Str) := by decide +kernel
      have e2 : arOf ("not" : Str) = some 1 := by decide +kernel
      rw [Fm.toD_no, isF, if_neg e1, e2]
      simp [q]
  | .bi w f g, n, h, hd => by
    cases n with
    | zero => exact absurd hd (by show ¬ max f.dep g.dep + 1 ≤ 0; omega)
    | succ n =>
      have hd : max f.dep g.dep + 1 ≤ n + 1 := hd
      have q1 := isF_toD f n h.1 (by omega)
      have q2 := isF_toD g n h.2 (by omega)
      have e2 : arOf w.txt = some 2 := by cases w <;> decide +kernel
      rw [Fm.toD_bi, isF, if_neg (txt_sign w), e2]
      simp [q1, q2]

/-! ### promises -/
section
variable (K : PySem.W.Frag)
def spIsNum : Sp := fun vs H Q _ => ∃ v d, vs = [v] ∧ Dp K H v d ∧ Q (.bl (isNum d)) H
def spIsSign : Sp := fun vs H Q _ => ∃ v d, vs = [v] ∧ Dp K H v d ∧ Q (.bl (isSg d)) H
def spIsF (n : Nat) : Sp := fun vs H Q _ => ∃ (v : V) (d : PyData) (k : Int), vs = [v, .int k] ∧ Dp K H v d ∧ 0 ≤ k ∧ k < (n : Int) ∧ ∀ H', Same H H' → Q (.bl (isF k.toNat d)) H'
def spIsFormula : Sp := fun vs H Q _ => ∃ v d, vs = [v] ∧ Dp K H v d ∧ ∀ H', Same H H' → Q (.bl (isF 12 d)) H'
/-- where nothing is refused -/
def spRefuse0 : Sp := fun vs H Q _ => ∃ v d, vs = [v] ∧ Dp K H v d ∧ isF 12 d = true ∧ ∀ H', Same H H' → Q .non H'
def spInner : Sp := fun vs H Q _ => ∃ (v : V) (f : Fm), vs = [v] ∧ Dp K H v f.toD ∧ ∀ (r : Addr) (H' : Hp) (ys : List V), Same H H' → SqT K H' r ys → DpAll K H' ys (f.kids.map Fm.toD) → Q (.ref r) H'
def spSpelled (n : Nat) : Sp := fun vs H Q _ => ∃ (v : V) (f : Fm), vs = [v] ∧ Dp K H v f.toD ∧ f.good ∧ f.dep ≤ 12 ∧ f.dep < n ∧ ∀ H', Same H H' → Q (.str (spS f)) H'
/-- the dict of the parts found -/
def Found (H : Hp) (kvs : List (Key × V)) (fs : List Fm) : Prop := Paired (fun (p : Key × V) (f : Fm) => p.1 = Sum.inr (spS f) ∧ Dp K H p.2 f.toD) kvs fs
def spFind (n : Nat) : Sp := fun vs H Q _ => ∃ (v : V) (f : Fm) (a : Addr) (kvs : List (Key × V)) (fs : List Fm), vs = [v, .ref a] ∧ Dp K H v f.toD ∧ f.good ∧ f.dep ≤ 12 ∧ f.dep < n ∧
  H a = some (.dK kvs) ∧ Found K H kvs fs ∧ (∀ g ∈ fs, g.good) ∧ fs.length + f.size ≤ 10000 ∧
  ∀ (H' : Hp) (kvs' : List (Key × V)), But a H H' → H' a = some (.dK kvs') → Found K H' kvs' (findP f fs) → Q .non H'
def spParts : Sp := fun vs H Q _ => ∃ (v : V) (f : Fm), vs = [v] ∧ Dp K H v f.toD ∧ f.good ∧ f.dep ≤ 12 ∧
  ∀ (r : Addr) (H' : Hp) (ys : List V), Same H H' → H' r = some (.lst ys) → DpAll K H' ys ((findP f []).map Fm.toD) → Q (.ref r) H'
def spIsTrue (n : Nat) : Sp := fun vs H Q _ => ∃ (v : V) (f : Fm) (a : Addr) (kvs : List (Key × V)) (S : Int → Bool), vs = [v, .ref a] ∧ Dp K H v f.toD ∧ f.dep < n ∧ H a = some (.dK kvs) ∧ (∀ i : Int, (valV kvs (Sum.inl i)).isSome = S i) ∧
  ∀ H', Same H H' → Q (.bl (f.tr S)) H'
def spTruth : Sp := fun vs H Q _ => ∃ (v : V) (f : Fm) (a : Addr) (ns : List Int), vs = [v, .ref a] ∧ Dp K H v f.toD ∧ f.good ∧ f.dep ≤ 12 ∧ SqL K H a (ns.map V.int) ∧ ns.length ≤ 1000 ∧
  ∀ H', Same H H' → Q (.bl (f.tr fun i => decide (i ∈ ns))) H'
end
section
variable {K : PySem.W.Frag} {H H' : Hp}
theorem found_keep (t : Tk K H H') : ∀ {kvs : List (Key × V)} {fs : List Fm}, Found K H kvs fs → Found K H' kvs fs
  | _, _, .nil => .nil
  | _, _, .cons h r => .cons ⟨h.1, fm_keep t _ _ h.2⟩ (found_keep t r)
theorem found_len {kvs : List (Key × V)} {fs : List Fm} (h : Found K H kvs fs) : kvs.length = fs.length := Paired.length h
theorem found_app : ∀ {kvs ks : List (Key × V)} {fs gs : List Fm}, Found K H kvs fs → Found K H ks gs → Found K H (kvs ++ ks) (fs ++ gs)
  | _, _, _, _, .nil, k => k
  | _, _, _, _, .cons h r, k => .cons h (found_app r k)
theorem found_at {f : Fm} (hf : f.good) : ∀ {kvs : List (Key × V)} {fs : List Fm}, Found K H kvs fs → (∀ g ∈ fs, g.good) → (valV kvs (Sum.inr (spS f))).isSome = decide (f ∈ fs)
  | _, _, .nil, _ => rfl
  | p :: ks, g :: gs, .cons h r, hg => by
    have ih := found_at hf r fun x hx => hg x (List.mem_cons_of_mem _ hx)
    by_cases e : g = f
    · subst e
      rw [valV_pos h.1, decide_eq_true (List.mem_cons_self)]
      rfl
    · have ne : ¬ p.1 = Sum.inr (spS f) := fun z => e (spS_inj (hg g List.mem_cons_self) hf (Sum.inr.inj (h.1.symm.trans z)))
      rw [valV_neg ne, ih]
      by_cases m : f ∈ gs
      · rw [decide_eq_true m, decide_eq_true (List.mem_cons_of_mem _ m)]
      · rw [decide_eq_false m, decide_eq_false]
        intro z
        rcases List.mem_cons.mp z with z | z
        · exact e z.symm
        · exact m z
theorem found_vals : ∀ {kvs : List (Key × V)} {fs : List Fm}, Found K H kvs fs → DpAll K H (kvs.map (·.2)) (fs.map Fm.toD)
  | _, _, .nil => .nil
  | _, _, .cons h r => .cons h.2 (found_vals r)
end
theorem dp_kids {K : PySem.W.Frag} {H : Hp} {v : V} {f : Fm} (h : Dp K H v f.toD) : ∃ a w xs, v = .ref a ∧ SqT K H a (w :: xs) ∧ (match f with | .sg i => w = .str ("sign" : Str) ∧ xs = [.int i] | .no g => w = .str ("not" : Str) ∧ DpAll K H xs [g.toD] | .bi b g k => w = .str b.txt ∧ DpAll K H xs [g.toD, k.toD]) := by
  cases f with
  | sg i =>
    obtain ⟨a, rfl, hs⟩ := dp_sg h
    exact ⟨a, _, _, rfl, hs, rfl, rfl⟩
  | no g =>
    obtain ⟨a, x, rfl, hs, hx⟩ := dp_no h
    exact ⟨a, _, _, rfl, hs, rfl, .cons hx .nil⟩
  | bi b g k =>
    obtain ⟨a, x, y, rfl, hs, hx, hy⟩ := dp_bi h
    exact ⟨a, _, _, rfl, hs, rfl, .cons hx (.cons hy .nil)⟩
/-- the module's dict of words -/
structure ManyD (K : PySem.W.Frag) (w : World) (d : Addr) (es : Array DictEntry) (n : Nat) : Prop where
  kd : KDict K w d es n
  nt : ∃ t, PySem.W.nsIn K d "not" = some (some (.int 1 t))
  an : ∃ t, PySem.W.nsIn K d "and" = some (some (.int 2 t))
  o_ : ∃ t, PySem.W.nsIn K d "or" = some (some (.int 2 t))
  th : ∃ t, PySem.W.nsIn K d "then" = some (some (.int 2 t))
  no : ∀ x : Str, arOf x = none → PySem.W.nsIn K d x = some none
theorem ManyD.get {K : PySem.W.Frag} {w : World} {d : Addr} {es : Array DictEntry} {n : Nat} (D : ManyD K w d es n) {x : Str} {k : Int} (h : arOf x = some k) : ∃ t, PySem.W.nsIn K d x = some (some (.int k t)) := by
  unfold arOf at h
  split at h
  · rename_i e; cases h; rw [e]; exact D.nt
  · split at h
    · rename_i e; cases h; rw [e]; exact D.an
    · split at h
      · rename_i e; cases h; rw [e]; exact D.o_
      · split at h
        · rename_i e; cases h; rw [e]; exact D.th
        · cases h
theorem ManyD.is {K : PySem.W.Frag} {w : World} {d : Addr} {es : Array DictEntry} {n : Nat} (D : ManyD K w d es n) (x : Str) : ∃ r, PySem.W.nsIn K d x = some r ∧ r.isSome = (arOf x).isSome := by
  cases e : arOf x with
  | none => exact ⟨none, D.no x e, rfl⟩
  | some k =>
    obtain ⟨t, q⟩ := D.get e
    exact ⟨_, q, rfl⟩
end Lm
set_option Elab.async false
set_option linter.all false
set_option maxRecDepth 100000
set_option maxHeartbeats 400000
namespace Lm
open PySem PySem.Spec PyProof.Rows L2
section
variable {X : Cx}
/-- list + list, wherever they come from -/
def rCatL (K : PySem.W.Frag) : R2 := fun x y H Q => ∃ (l b : Addr) (xs zs : List V), x = .ref l ∧ y = .ref b ∧ SqL K H l xs ∧ SqL K H b zs ∧ xs.length + zs.length ≤ sizeLine ∧ ∀ p, H p = none → Q (.ref p) (upd H p (.lst (xs ++ zs)))
theorem op_catL : OpR X (binaryOp .Add) (rCatL X.K) := by
  intro pins s σ H x y v u Q I rx ry h
  obtain ⟨l, b, xs, zs, rfl, rfl, hl, hb, hz, q⟩ := h
  cases rx
  cases ry
  obtain ⟨is, r1, ⟨⟨c1, d1, a1, s1⟩, n1, g1, e1, e2, e3⟩, _⟩ := I.list hl
  obtain ⟨js, r2, ⟨⟨c2, d2, a2, s2⟩, n2, g2, k1, k2, k3⟩, _⟩ := I.list hb
  dsimp only at e1 e2 e3 k1 k2 k3
  subst e1 e2 e3 k1 k2 k3
  have l1 := r1.length
  have l2 := r2.length
  refine concat_meets ⟨_, g1, rfl⟩ ⟨_, g2, rfl⟩ noFill_list_add seq_list_add PySem.F.slot_list_add PySem.F.entry_list_add (PySem.F.args_list_add_2 _ _) (list_addW l b is.toArray js.toArray n1 n2 _ _ s1 s2 (by rw [List.size_toArray, List.size_toArray]; omega)) ⟨g1, g2, ?_⟩
  rw [show is.toArray ++ js.toArray = (is ++ js).toArray from by simp]
  exact ⟨.ref _, _, I.lnew (t' := s.toks) (r1.append r2) (by rw [List.length_append]; omega), rfl, q _ I.fresh⟩
end
end Lm
set_option Elab.async false
set_option linter.all false
set_option maxRecDepth 100000
set_option maxHeartbeats 400000
/-! pure readings: data alone -/
namespace Lm
open PySem PySem.Spec PyProof.Rows L2
abbrev Rho := List (Option PyData)
/-- the slots hold these data -/
def EnvD (K : PySem.W.Frag) (H : Hp) (σ : L2.St) (ρ : Rho) : Prop := σ.length = ρ.length ∧ ∀ (i : Nat) (d : PyData), ρ[i]? = some (some d) → ∃ v, σ[i]? = some (some v) ∧ Dp K H v d
section
variable {K : PySem.W.Frag} {H H' : Hp} {σ : L2.St} {ρ : Rho} {v : V} {d : PyData}
theorem EnvD.same (h : EnvD K H σ ρ) (e : Same H H') : EnvD K H' σ ρ := ⟨h.1, fun i d q => (h.2 i d q).imp fun v p => ⟨p.1, dp_same e _ _ p.2⟩⟩
theorem EnvD.put (h : EnvD K H σ ρ) (hd : Dp K H v d) (i : Nat) : EnvD K H (σ.set i (some v)) (ρ.set i (some d)) := by
  refine ⟨by rw [List.length_set, List.length_set, h.1], fun j e q => ?_⟩
  by_cases c : i = j
  · subst c
    by_cases l : i < ρ.length
    · rw [List.getElem?_set_self l] at q
      cases q
      exact ⟨v, List.getElem?_set_self (by rw [h.1]; exact l), hd⟩
    · rw [List.getElem?_eq_none (by rw [List.length_set]; omega)] at q
      cases q
  · rw [List.getElem?_set_ne c] at q
    obtain ⟨u, a, b⟩ := h.2 j e q
    exact ⟨u, by rw [List.getElem?_set_ne c]; exact a, b⟩
theorem EnvD.drop (h : EnvD K H σ ρ) (i : Nat) : EnvD K H (σ.set i none) (ρ.set i none) := by
  refine ⟨by rw [List.length_set, List.length_set, h.1], fun j e q => ?_⟩
  by_cases c : i = j
  · subst c
    by_cases l : i < ρ.length
    · rw [List.getElem?_set_self l] at q
      cases q
    · rw [List.getElem?_eq_none (by rw [List.length_set]; omega)] at q
      cases q
  · rw [List.getElem?_set_ne c] at q
    obtain ⟨u, a, b⟩ := h.2 j e q
    exact ⟨u, by rw [List.getElem?_set_ne c]; exact a, b⟩
theorem EnvD.nil : EnvD K H [] [] := ⟨rfl, fun _ _ q => nomatch q⟩
theorem EnvD.cons (hd : Dp K H v d) (h : EnvD K H σ ρ) : EnvD K H (some v :: σ) (some d :: ρ) := ⟨by rw [List.length_cons, List.length_cons, h.1], fun i e q => by
  cases i with
  | zero => cases q; exact ⟨v, rfl, hd⟩
  | succ i => exact h.2 i e q⟩
theorem EnvD.non (h : EnvD K H σ ρ) (x : Option V) : EnvD K H (x :: σ) (none :: ρ) := ⟨by rw [List.length_cons, List.length_cons, h.1], fun i e q => by
  cases i with
  | zero => cases q
  | succ i => exact h.2 i e q⟩
end
/-- what is hidden: lists and dicts -/
def Hid (M : Addr → Bool) (H : Hp) : Prop := ∀ p, M p = true → (∃ xs, H p = some (.lst xs)) ∨ ∃ kvs, H p = some (.dK kvs)
/-- the heap without what is hidden -/
def vis (M : Addr → Bool) (H : Hp) : Hp := fun b => if M b = true then none else H b
section
variable {M : Addr → Bool} {H H' : Hp} {p : Addr} {o : HO}
theorem vis_sub : Same (vis M H) H := fun b u h => by
  unfold vis at h
  split at h
  · cases h
  · exact h
theorem vis_same (e : Same H H') : Same (vis M H) (vis M H') := fun b u h => by
  unfold vis at h ⊢
  split at h
  · cases h
  · rename_i c
    rw [if_neg c]
    exact e b u h
theorem Hid.same (h : Hid M H) (e : Same H H') : Hid M H' := fun p c => by
  rcases h p c with ⟨x, q⟩ | ⟨x, q⟩
  · exact .inl ⟨x, e _ _ q⟩
  · exact .inr ⟨x, e _ _ q⟩
theorem Hid.non (h : Hid M H) (n : H p = none) : M p = false := by
  cases c : M p with
  | false => rfl
  | true => rcases h p c with ⟨x, q⟩ | ⟨x, q⟩ <;> (rw [n] at q; cases q)
theorem vis_new (h : Hid M H) (n : H p = none) : vis M (upd H p o) p = some o := by
  unfold vis
  rw [h.non n, if_neg Bool.false_ne_true, upd_same]
theorem Hid.none : Hid (fun _ => false) H := fun p c => nomatch c
theorem vis_none : vis (fun _ => false) H = H := by
  funext b
  unfold vis
  rw [if_neg Bool.false_ne_true]
theorem Hid.tk {K : PySem.W.Frag} (h : Hid M H) : Tk K H (vis M H) := fun b xs q => by
  have c : ∀ o, H b = some o → (∀ ys, o ≠ .lst ys) → (∀ kvs, o ≠ .dK kvs) → vis M H b = some o := fun o e n1 n2 => by
    cases c : M b with
    | true =>
      rcases h b c with ⟨x, q⟩ | ⟨x, q⟩
      · rw [e] at q; exact absurd (Option.some.inj q) (n1 x)
      · rw [e] at q; exact absurd (Option.some.inj q) (n2 x)
    | false =>
      unfold vis
      rw [c, if_neg Bool.false_ne_true]
      exact e
  rcases q with (q | ⟨o, q⟩) | q
  · exact .inl (.inl (c _ q (fun _ z => nomatch z) (fun _ z => nomatch z)))
  · exact .inl (.inr ⟨o, c _ q (fun _ z => nomatch z) (fun _ z => nomatch z)⟩)
  · exact .inr q
end
/-- the expression gives the data d, and nothing that stood is changed -/
def PuE (K : PySem.W.Frag) (te : TE) (ρ : Rho) (d : PyData) : Prop := ∀ (M : Addr → Bool) σ H, Hid M H → EnvD K (vis M H) σ ρ → ∀ Q : VK, (∀ v H', Same H H' → Dp K (vis M H') v d → Q v H') → te σ H Q
def PuA (K : PySem.W.Frag) (ta : TA) (ρ : Rho) (ds : List PyData) : Prop := ∀ (M : Addr → Bool) σ H, Hid M H → EnvD K (vis M H) σ ρ → ∀ Q : List V → Hp → Prop, (∀ vs H', Same H H' → DpAll K (vis M H') vs ds → Q vs H') → ta σ H Q
def PuT (K : PySem.W.Frag) (tt : TT) (ρ : Rho) (b : Bool) : Prop := ∀ (M : Addr → Bool) σ H, Hid M H → EnvD K (vis M H) σ ρ → ∀ Q : Bool → Hp → Prop, (∀ H', Same H H' → Q b H') → tt σ H Q
section
variable {K : PySem.W.Frag} {ρ : Rho} {te ta tb tc : TE} {tA : TA} {tt tu : TT} {d e : PyData} {ds es : List PyData}
theorem PuE.cast (h : PuE K te ρ d) (q : d = e) : PuE K te ρ e := q ▸ h
theorem PuT.cast {b c : Bool} (h : PuT K tt ρ b) (q : b = c) : PuT K tt ρ c := q ▸ h
theorem pu_var {i : Nat} (h : ρ[i]? = some (some d)) : PuE K (tVar i) ρ d := fun M σ H hid en Q q => by
  obtain ⟨v, a, b⟩ := en.2 i d h
  exact ⟨v, a, q v H (Same.refl _) b⟩
theorem pu_int (i : Int) : PuE K (tC (.int i)) ρ (.int i) := fun M σ H hid en Q q => q _ H (Same.refl _) (.int i)
theorem pu_str (x : Str) : PuE K (tC (.str x)) ρ (.str x) := fun M σ H hid en Q q => q _ H (Same.refl _) (.str x)
theorem pu_bl (b : Bool) : PuE K (tC (.bl b)) ρ (.bool b) := fun M σ H hid en Q q => q _ H (Same.refl _) (.bl b)
theorem pu_non : PuE K (tC .non) ρ .none := fun M σ H hid en Q q => q _ H (Same.refl _) .non
theorem pu_nil : PuA K tNil ρ [] := fun M σ H hid en Q q => q [] H (Same.refl _) .nil
theorem pu_cons (h : PuE K te ρ d) (k : PuA K tA ρ ds) : PuA K (tCons te tA) ρ (d :: ds) := fun M σ H hid en Q q =>
  h M σ H hid en _ fun v H1 e1 hv => k M σ H1 (hid.same e1) (en.same (vis_same e1)) _ fun vs H2 e2 hvs => q (v :: vs) H2 (e1.trans e2) (.cons (dp_same (vis_same e2) _ _ hv) hvs)
theorem pu_tup (h : PuA K tA ρ ds) (hl : ds.length ≤ 100000 := by decide) : PuE K (tTup tA) ρ (.tuple ds) := fun M σ H hid en Q q =>
  h M σ H hid en _ fun vs H1 e1 hvs => ⟨sl1000 (by rw [dpAll_len hvs]; exact hl), fun p np => q (.ref p) _ (e1.trans (same_new np _)) (.tup (SqT.of (vis_new (hid.same e1) np)) (dpAll_same (vis_same (same_new np _)) _ _ hvs))⟩
theorem pu_lst (h : PuA K tA ρ ds) (hl : ds.length ≤ 100000 := by decide) : PuE K (tLst tA) ρ (.list ds) := fun M σ H hid en Q q =>
  h M σ H hid en _ fun vs H1 e1 hvs => ⟨sl1000 (by rw [dpAll_len hvs]; exact hl), fun p np => q (.ref p) _ (e1.trans (same_new np _)) (.lst (SqL.of (vis_new (hid.same e1) np)) (dpAll_same (vis_same (same_new np _)) _ _ hvs))⟩
/-! data opened -/
theorem dp_tupI {H : Hp} {v : V} (h : Dp K H v (.tuple ds)) : ∃ a vs, v = .ref a ∧ SqT K H a vs ∧ DpAll K H vs ds := by
  cases h with
  | tup hs ha => exact ⟨_, _, rfl, hs, ha⟩
theorem dp_lstI {H : Hp} {v : V} (h : Dp K H v (.list ds)) : ∃ a vs, v = .ref a ∧ SqL K H a vs ∧ DpAll K H vs ds := by
  cases h with
  | lst hs ha => exact ⟨_, _, rfl, hs, ha⟩
theorem dp_intI {H : Hp} {v : V} {i : Int} (h : Dp K H v (.int i)) : v = .int i := by cases h; rfl
theorem dp_blI {H : Hp} {v : V} {b : Bool} (h : Dp K H v (.bool b)) : v = .bl b := by cases h; rfl
theorem dp_strI {H : Hp} {v : V} {x : Str} (h : Dp K H v (.str x)) : v = .str x := by cases h; rfl
theorem dp_nonI {H : Hp} {v : V} (h : Dp K H v .none) : v = .non := by cases h; rfl
theorem dpAll_bls {H : Hp} : ∀ {bs : List Bool} {vs : List V}, DpAll K H vs (bs.map PyData.bool) → vs = bs.map V.bl
  | [], _, h => by cases h; rfl
  | b :: bs, _, h => by
    have h : DpAll K H _ (PyData.bool b :: bs.map PyData.bool) := h
    cases h with
    | cons h1 h2 => rw [dp_blI h1, dpAll_bls h2]; rfl
theorem dpAll_nums {H : Hp} : ∀ {ns : List Int} {vs : List V}, DpAll K H vs (ns.map PyData.int) → vs = ns.map V.int
  | [], _, h => by cases h; rfl
  | b :: bs, _, h => by
    have h : DpAll K H _ (PyData.int b :: bs.map PyData.int) := h
    cases h with
    | cons h1 h2 => rw [dp_intI h1, dpAll_nums h2]; rfl
theorem dpAll_at {H : Hp} {vs : List V} (h : DpAll K H vs ds) {j : Nat} (hd : ds[j]? = some d) : ∃ v, vs[j]? = some v ∧ Dp K H v d := by
  have hl := dpAll_len h
  have hj : j < vs.length := by rw [hl]; exact (List.getElem?_eq_some_iff.mp hd).1
  obtain ⟨e, he, hv⟩ := dpAll_get h (List.getElem?_eq_getElem hj)
  rw [hd] at he
  cases he
  exact ⟨_, List.getElem?_eq_getElem hj, hv⟩
theorem atI_dp {H : Hp} {vs : List V} (h : DpAll K H vs ds) {i : Int} (hd : atI ds i = some d) : ∃ v, atI vs i = some v ∧ Dp K H v d := by
  unfold atI at hd ⊢
  rw [dpAll_len h]
  cases e : ixN ds.length i with
  | none => rw [e] at hd; cases hd
  | some j => rw [e] at hd; exact dpAll_at h hd
theorem pu_ixT {i : Int} (h1 : PuE K ta ρ (.tuple ds)) (h2 : PuE K tb ρ (.int i)) (h : atI ds i = some d) : PuE K (tOp (rIxT K) ta tb) ρ d := fun M σ H hid en Q q =>
  h1 M σ H hid en _ fun v H1 e1 hv => h2 M σ H1 (hid.same e1) (en.same (vis_same e1)) _ fun u H2 e2 hu => by
    obtain ⟨a, vs, rfl, hs, ha⟩ := dp_tupI (dp_same (vis_same e2) _ _ hv)
    obtain rfl := dp_intI hu
    obtain ⟨x, hx, hdx⟩ := atI_dp ha h
    exact ⟨a, vs, i, x, rfl, rfl, sqT_same vis_sub hs, hx, q x H2 (e1.trans e2) hdx⟩
theorem pu_ixL {i : Int} (h1 : PuE K ta ρ (.list ds)) (h2 : PuE K tb ρ (.int i)) (h : atI ds i = some d) : PuE K (tOp (rIxL K) ta tb) ρ d := fun M σ H hid en Q q =>
  h1 M σ H hid en _ fun v H1 e1 hv => h2 M σ H1 (hid.same e1) (en.same (vis_same e1)) _ fun u H2 e2 hu => by
    obtain ⟨a, vs, rfl, hs, ha⟩ := dp_lstI (dp_same (vis_same e2) _ _ hv)
    obtain rfl := dp_intI hu
    obtain ⟨x, hx, hdx⟩ := atI_dp ha h
    exact ⟨a, vs, i, x, rfl, rfl, vis_sub.seq hs, hx, q x H2 (e1.trans e2) hdx⟩
/-! numbers -/
theorem pu_rI0 {g : Int → Int → V} {i j : Int} (h1 : PuE K ta ρ (.int i)) (h2 : PuE K tb ρ (.int j)) (hg : ∀ H, Dp K H (g i j) d) : PuE K (tOp (rI0 g) ta tb) ρ d := fun M σ H hid en Q q =>
  h1 M σ H hid en _ fun v H1 e1 hv => h2 M σ H1 (hid.same e1) (en.same (vis_same e1)) _ fun u H2 e2 hu => ⟨i, j, dp_intI hv, dp_intI hu, q _ H2 (e1.trans e2) (hg _)⟩
theorem pu_rI {C : Int → Int → Prop} {g : Int → Int → V} {i j : Int} (h1 : PuE K ta ρ (.int i)) (h2 : PuE K tb ρ (.int j)) (hc : C i j) (hg : ∀ H, Dp K H (g i j) d) : PuE K (tOp (rI C g) ta tb) ρ d := fun M σ H hid en Q q =>
  h1 M σ H hid en _ fun v H1 e1 hv => h2 M σ H1 (hid.same e1) (en.same (vis_same e1)) _ fun u H2 e2 hu => ⟨i, j, dp_intI hv, dp_intI hu, hc, q _ H2 (e1.trans e2) (hg _)⟩
theorem pu_add {i j : Int} (h1 : PuE K ta ρ (.int i)) (h2 : PuE K tb ρ (.int j)) : PuE K (tOp (rI0 fun i j => .int (i + j)) ta tb) ρ (.int (i + j)) := pu_rI0 h1 h2 fun H => .int _
theorem pu_sub {i j : Int} (h1 : PuE K ta ρ (.int i)) (h2 : PuE K tb ρ (.int j)) : PuE K (tOp (rI0 fun i j => .int (i - j)) ta tb) ρ (.int (i - j)) := pu_rI0 h1 h2 fun H => .int _
theorem pu_mul {i j : Int} (h1 : PuE K ta ρ (.int i)) (h2 : PuE K tb ρ (.int j)) (hc : CMul i j) : PuE K (tOp (rI CMul fun i j => .int (i * j)) ta tb) ρ (.int (i * j)) := pu_rI h1 h2 hc fun H => .int _
theorem pu_mod {i j : Int} (h1 : PuE K ta ρ (.int i)) (h2 : PuE K tb ρ (.int j)) (hc : 0 < j) : PuE K (tOp (rI (fun _ j => 0 < j) fun i j => .int (i % j)) ta tb) ρ (.int (i % j)) := pu_rI h1 h2 hc fun H => .int _
theorem pu_fdiv {i j : Int} (h1 : PuE K ta ρ (.int i)) (h2 : PuE K tb ρ (.int j)) (hc : CDiv i j) : PuE K (tOp (rI CDiv fun i j => .int (i / j)) ta tb) ρ (.int (i / j)) := pu_rI h1 h2 hc fun H => .int _
theorem pu_lt {i j : Int} (h1 : PuE K ta ρ (.int i)) (h2 : PuE K tb ρ (.int j)) : PuE K (tOp (rI0 fun i j => .bl (decide (i < j))) ta tb) ρ (.bool (decide (i < j))) := pu_rI0 h1 h2 fun H => .bl _
theorem pu_le {i j : Int} (h1 : PuE K ta ρ (.int i)) (h2 : PuE K tb ρ (.int j)) : PuE K (tOp (rI0 fun i j => .bl (decide (i ≤ j))) ta tb) ρ (.bool (decide (i ≤ j))) := pu_rI0 h1 h2 fun H => .bl _
theorem pu_gt {i j : Int} (h1 : PuE K ta ρ (.int i)) (h2 : PuE K tb ρ (.int j)) : PuE K (tOp (rI0 fun i j => .bl (decide (j < i))) ta tb) ρ (.bool (decide (j < i))) := pu_rI0 h1 h2 fun H => .bl _
theorem pu_ge {i j : Int} (h1 : PuE K ta ρ (.int i)) (h2 : PuE K tb ρ (.int j)) : PuE K (tOp (rI0 fun i j => .bl (decide (j ≤ i))) ta tb) ρ (.bool (decide (j ≤ i))) := pu_rI0 h1 h2 fun H => .bl _
theorem pu_eqI {i j : Int} (h1 : PuE K ta ρ (.int i)) (h2 : PuE K tb ρ (.int j)) : PuE K (tOp rEq ta tb) ρ (.bool (decide (i = j))) := fun M σ H hid en Q q =>
  h1 M σ H hid en _ fun v H1 e1 hv => h2 M σ H1 (hid.same e1) (en.same (vis_same e1)) _ fun u H2 e2 hu => by
    obtain rfl := dp_intI hv
    obtain rfl := dp_intI hu
    refine ⟨rfl, ?_⟩
    have e : (decide (V.int i = V.int j)) = decide (i = j) := decide_eq_decide.mpr ⟨fun z => V.int.inj z, fun z => z ▸ rfl⟩
    rw [e]
    exact q _ H2 (e1.trans e2) (.bl _)
theorem pu_neI {i j : Int} (h1 : PuE K ta ρ (.int i)) (h2 : PuE K tb ρ (.int j)) : PuE K (tOp rNe ta tb) ρ (.bool (!decide (i = j))) := fun M σ H hid en Q q =>
  h1 M σ H hid en _ fun v H1 e1 hv => h2 M σ H1 (hid.same e1) (en.same (vis_same e1)) _ fun u H2 e2 hu => by
    obtain rfl := dp_intI hv
    obtain rfl := dp_intI hu
    refine ⟨rfl, ?_⟩
    have e : (decide (V.int i = V.int j)) = decide (i = j) := decide_eq_decide.mpr ⟨fun z => V.int.inj z, fun z => z ▸ rfl⟩
    rw [e]
    exact q _ H2 (e1.trans e2) (.bl _)
theorem pu_eqS {i j : Str} (h1 : PuE K ta ρ (.str i)) (h2 : PuE K tb ρ (.str j)) : PuE K (tOp rEq ta tb) ρ (.bool (decide (i = j))) := fun M σ H hid en Q q =>
  h1 M σ H hid en _ fun v H1 e1 hv => h2 M σ H1 (hid.same e1) (en.same (vis_same e1)) _ fun u H2 e2 hu => by
    obtain rfl := dp_strI hv
    obtain rfl := dp_strI hu
    refine ⟨rfl, ?_⟩
    have e : (decide (V.str i = V.str j)) = decide (i = j) := decide_eq_decide.mpr ⟨fun z => V.str.inj z, fun z => z ▸ rfl⟩
    rw [e]
    exact q _ H2 (e1.trans e2) (.bl _)
theorem pu_neS {i j : Str} (h1 : PuE K ta ρ (.str i)) (h2 : PuE K tb ρ (.str j)) : PuE K (tOp rNe ta tb) ρ (.bool (!decide (i = j))) := fun M σ H hid en Q q =>
  h1 M σ H hid en _ fun v H1 e1 hv => h2 M σ H1 (hid.same e1) (en.same (vis_same e1)) _ fun u H2 e2 hu => by
    obtain rfl := dp_strI hv
    obtain rfl := dp_strI hu
    refine ⟨rfl, ?_⟩
    have e : (decide (V.str i = V.str j)) = decide (i = j) := decide_eq_decide.mpr ⟨fun z => V.str.inj z, fun z => z ▸ rfl⟩
    rw [e]
    exact q _ H2 (e1.trans e2) (.bl _)
/-! data compared -/
theorem pu_eqD (h1 : PuE K ta ρ d) (h2 : PuE K tb ρ e) (s1 : SeqAt.shaped d = true) (s2 : SeqAt.shaped e = true) : PuE K (tOp (rEqD K) ta tb) ρ (.bool (PyData.eqv d e)) := fun M σ H hid en Q q =>
  h1 M σ H hid en _ fun v H1 e1 hv => h2 M σ H1 (hid.same e1) (en.same (vis_same e1)) _ fun u H2 e2 hu => ⟨d, e, dp_same ((vis_same e2).trans vis_sub) _ _ hv, dp_same vis_sub _ _ hu, s1, s2, q _ H2 (e1.trans e2) (.bl _)⟩
theorem pu_neD (h1 : PuE K ta ρ d) (h2 : PuE K tb ρ e) (s1 : SeqAt.shaped d = true) (s2 : SeqAt.shaped e = true) : PuE K (tOp (rNeD K) ta tb) ρ (.bool (!PyData.eqv d e)) := fun M σ H hid en Q q =>
  h1 M σ H hid en _ fun v H1 e1 hv => h2 M σ H1 (hid.same e1) (en.same (vis_same e1)) _ fun u H2 e2 hu => ⟨d, e, dp_same ((vis_same e2).trans vis_sub) _ _ hv, dp_same vis_sub _ _ hu, s1, s2, q _ H2 (e1.trans e2) (.bl _)⟩
theorem pu_inD (h1 : PuE K ta ρ d) (h2 : PuE K tb ρ (.list ds)) (s1 : SeqAt.shaped d = true) (s2 : SeqAt.shaped (.list ds) = true) : PuE K (tOp (rInD K) ta tb) ρ (.bool (ds.any fun z => PyData.eqv z d)) := fun M σ H hid en Q q =>
  h1 M σ H hid en _ fun v H1 e1 hv => h2 M σ H1 (hid.same e1) (en.same (vis_same e1)) _ fun u H2 e2 hu => ⟨d, ds, dp_same ((vis_same e2).trans vis_sub) _ _ hv, dp_same vis_sub _ _ hu, s1, s2, q _ H2 (e1.trans e2) (.bl _)⟩
theorem pu_notInD (h1 : PuE K ta ρ d) (h2 : PuE K tb ρ (.list ds)) (s1 : SeqAt.shaped d = true) (s2 : SeqAt.shaped (.list ds) = true) : PuE K (tOp (rNotInD K) ta tb) ρ (.bool (!ds.any fun z => PyData.eqv z d)) := fun M σ H hid en Q q =>
  h1 M σ H hid en _ fun v H1 e1 hv => h2 M σ H1 (hid.same e1) (en.same (vis_same e1)) _ fun u H2 e2 hu => ⟨d, ds, dp_same ((vis_same e2).trans vis_sub) _ _ hv, dp_same vis_sub _ _ hu, s1, s2, q _ H2 (e1.trans e2) (.bl _)⟩
/-- is None -/
def isNo : PyData → Bool
  | .none => true
  | _ => false
theorem dp_isNo {H : Hp} {v : V} (h : Dp K H v d) : decide (v = .non) = isNo d := by
  cases h <;> first | rfl | exact decide_eq_false (fun z => nomatch z)
theorem pu_isN (h1 : PuE K ta ρ d) : PuE K (tIsN ta) ρ (.bool (isNo d)) := fun M σ H hid en Q q =>
  h1 M σ H hid en _ fun v H1 e1 hv => by
    rw [dp_isNo hv]
    exact q _ H1 e1 (.bl _)
theorem pu_notN (h1 : PuE K ta ρ d) : PuE K (tNotN ta) ρ (.bool (!isNo d)) := fun M σ H hid en Q q =>
  h1 M σ H hid en _ fun v H1 e1 hv => by
    rw [dp_isNo hv]
    exact q _ H1 e1 (.bl _)
/-! lists -/
theorem pu_cat (h1 : PuE K ta ρ (.list ds)) (h2 : PuE K tb ρ (.list es)) (hl : ds.length + es.length ≤ 100000) : PuE K (tOp (rCatL K) ta tb) ρ (.list (ds ++ es)) := fun M σ H hid en Q q =>
  h1 M σ H hid en _ fun v H1 e1 hv => h2 M σ H1 (hid.same e1) (en.same (vis_same e1)) _ fun u H2 e2 hu => by
    obtain ⟨a, vs, rfl, hs, ha⟩ := dp_lstI (dp_same (vis_same e2) _ _ hv)
    obtain ⟨b, us, rfl, ks, kb⟩ := dp_lstI hu
    refine ⟨a, b, vs, us, rfl, rfl, vis_sub.seq hs, vis_sub.seq ks, sl1000 (by rw [dpAll_len ha, dpAll_len kb]; exact hl), fun p np => ?_⟩
    exact q (.ref p) _ ((e1.trans e2).trans (same_new np _)) (.lst (SqL.of (vis_new (hid.same (e1.trans e2)) np)) (dpAll_same (vis_same (same_new np _)) _ _ (dpAll_app ha kb)))
theorem dpAll_take {H : Hp} : ∀ (n : Nat) {vs : List V} {ds : List PyData}, DpAll K H vs ds → DpAll K H (vs.take n) (ds.take n)
  | 0, _, _, _ => .nil
  | n + 1, _, _, .nil => .nil
  | n + 1, _, _, .cons h1 h2 => .cons h1 (dpAll_take n h2)
theorem dpAll_drop {H : Hp} : ∀ (n : Nat) {vs : List V} {ds : List PyData}, DpAll K H vs ds → DpAll K H (vs.drop n) (ds.drop n)
  | 0, _, _, h => h
  | n + 1, _, _, .nil => .nil
  | n + 1, _, _, .cons h1 h2 => dpAll_drop n h2
theorem cutTo' (xs : List V) (n : Nat) : cutV xs none (some (n : Int)) = xs.take n := by
  unfold cutV
  have e1 : HT.sIx xs.length 0 none = 0 := rfl
  rw [e1, HT.sIx_nat, List.drop_zero, Nat.sub_zero]
  by_cases h : n ≤ xs.length
  · rw [Nat.min_eq_left h]
  · rw [Nat.min_eq_right (by omega), List.take_length, List.take_of_length_le (by omega)]
theorem cutFrom' (xs : List V) (n : Nat) : cutV xs (some (n : Int)) none = xs.drop n := by
  unfold cutV
  have e2 : HT.sIx xs.length xs.length none = xs.length := rfl
  rw [e2, HT.sIx_nat]
  by_cases h : n ≤ xs.length
  · rw [Nat.min_eq_left h, List.take_of_length_le (by rw [List.length_drop]; omega)]
  · rw [Nat.min_eq_right (by omega), List.drop_length, List.drop_eq_nil_of_le (by omega), List.take_nil]
/-- ds[:n] -/
theorem pu_to {n : Nat} (h1 : PuE K ta ρ (.list ds)) (h2 : PuE K tb ρ (.int n)) : PuE K (tSl (rSlL K) ta tNoPart (tPart tb)) ρ (.list (ds.take n)) := fun M σ H hid en Q q =>
  h1 M σ H hid en _ fun v H1 e1 hv => h2 M σ H1 (hid.same e1) (en.same (vis_same e1)) _ fun u H2 e2 hu => by
    obtain ⟨a, vs, rfl, hs, ha⟩ := dp_lstI (dp_same (vis_same e2) _ _ hv)
    refine ⟨n, dp_intI hu, a, vs, rfl, vis_sub.seq hs, fun p np => ?_⟩
    rw [cutTo']
    exact q (.ref p) _ ((e1.trans e2).trans (same_new np _)) (.lst (SqL.of (vis_new (hid.same (e1.trans e2)) np)) (dpAll_same (vis_same (same_new np _)) _ _ (dpAll_take n ha)))
/-- ds[n:] -/
theorem pu_from {n : Nat} (h1 : PuE K ta ρ (.list ds)) (h2 : PuE K tb ρ (.int n)) : PuE K (tSl (rSlL K) ta (tPart tb) tNoPart) ρ (.list (ds.drop n)) := fun M σ H hid en Q q =>
  h1 M σ H hid en _ fun v H1 e1 hv => h2 M σ H1 (hid.same e1) (en.same (vis_same e1)) _ fun u H2 e2 hu => by
    obtain ⟨a, vs, rfl, hs, ha⟩ := dp_lstI (dp_same (vis_same e2) _ _ hv)
    refine ⟨n, dp_intI hu, a, vs, rfl, vis_sub.seq hs, fun p np => ?_⟩
    rw [cutFrom']
    exact q (.ref p) _ ((e1.trans e2).trans (same_new np _)) (.lst (SqL.of (vis_new (hid.same (e1.trans e2)) np)) (dpAll_same (vis_same (same_new np _)) _ _ (dpAll_drop n ha)))
/-! builtins -/
/-- len of a list, a tuple -/
abbrev rLn (K : PySem.W.Frag) : List V → Hp → VK → Prop := fun xs H Q => ∃ p ys, xs = [V.ref p] ∧ (SqL K H p ys ∨ SqT K H p ys) ∧ Q (.int ys.length) H
theorem pu_len_l (h1 : PuE K ta ρ (.list ds)) : PuE K (tCB (rLn K) (tCons ta tNil)) ρ (.int ds.length) := fun M σ H hid en Q q =>
  h1 M σ H hid en _ fun v H1 e1 hv => by
    obtain ⟨a, vs, rfl, hs, ha⟩ := dp_lstI hv
    refine ⟨a, vs, rfl, .inl (vis_sub.seq hs), ?_⟩
    rw [dpAll_len ha]
    exact q _ H1 e1 (.int _)
theorem pu_len_t (h1 : PuE K ta ρ (.tuple ds)) : PuE K (tCB (rLn K) (tCons ta tNil)) ρ (.int ds.length) := fun M σ H hid en Q q =>
  h1 M σ H hid en _ fun v H1 e1 hv => by
    obtain ⟨a, vs, rfl, hs, ha⟩ := dp_tupI hv
    refine ⟨a, vs, rfl, .inr (sqT_same vis_sub hs), ?_⟩
    rw [dpAll_len ha]
    exact q _ H1 e1 (.int _)
theorem pu_isInt (h1 : PuE K ta ρ d) : PuE K (tCB (rIsi K) (tCons ta (tCons (tC (.ty "int")) tNil))) ρ (.bool (isIB d)) := fun M σ H hid en Q q =>
  h1 M σ H hid en _ fun v H1 e1 hv => ⟨v, .ty "int", _, _, _, rfl, .ty "int", tyx_of (dp_same vis_sub _ _ hv), kit_int hv, q _ H1 e1 (.bl _)⟩
theorem pu_isBool (h1 : PuE K ta ρ d) : PuE K (tCB (rIsi K) (tCons ta (tCons (tC (.ty "bool")) tNil))) ρ (.bool (isBl d)) := fun M σ H hid en Q q =>
  h1 M σ H hid en _ fun v H1 e1 hv => ⟨v, .ty "bool", _, _, _, rfl, .ty "bool", tyx_of (dp_same vis_sub _ _ hv), kit_bool hv, q _ H1 e1 (.bl _)⟩
theorem pu_isStr (h1 : PuE K ta ρ d) : PuE K (tCB (rIsi K) (tCons ta (tCons (tC (.ty "str")) tNil))) ρ (.bool (isSt d)) := fun M σ H hid en Q q =>
  h1 M σ H hid en _ fun v H1 e1 hv => ⟨v, .ty "str", _, _, _, rfl, .ty "str", tyx_of (dp_same vis_sub _ _ hv), kit_str hv, q _ H1 e1 (.bl _)⟩
theorem pu_isTup (h1 : PuE K ta ρ d) : PuE K (tCB (rIsi K) (tCons ta (tCons (tC (.ty "tuple")) tNil))) ρ (.bool (isTu d)) := fun M σ H hid en Q q =>
  h1 M σ H hid en _ fun v H1 e1 hv => ⟨v, .ty "tuple", _, _, _, rfl, .ty "tuple", tyx_of (dp_same vis_sub _ _ hv), kit_tuple hv, q _ H1 e1 (.bl _)⟩
theorem pu_isLst (h1 : PuE K ta ρ d) : PuE K (tCB (rIsi K) (tCons ta (tCons (tC (.ty "list")) tNil))) ρ (.bool (isLi d)) := fun M σ H hid en Q q =>
  h1 M σ H hid en _ fun v H1 e1 hv => ⟨v, .ty "list", _, _, _, rfl, .ty "list", tyx_of (dp_same vis_sub _ _ hv), kit_list hv, q _ H1 e1 (.bl _)⟩
theorem pu_all {bs : List Bool} (h1 : PuE K ta ρ (.list (bs.map PyData.bool))) : PuE K (tCB (rAll K) (tCons ta tNil)) ρ (.bool (bs.all id)) := fun M σ H hid en Q q =>
  h1 M σ H hid en _ fun v H1 e1 hv => by
    obtain ⟨a, vs, rfl, hs, ha⟩ := dp_lstI hv
    rw [dpAll_bls ha] at hs
    exact ⟨a, bs, rfl, vis_sub.seq hs, q _ H1 e1 (.bl _)⟩
theorem pu_any {bs : List Bool} (h1 : PuE K ta ρ (.list (bs.map PyData.bool))) : PuE K (tCB (rAny K) (tCons ta tNil)) ρ (.bool (bs.any id)) := fun M σ H hid en Q q =>
  h1 M σ H hid en _ fun v H1 e1 hv => by
    obtain ⟨a, vs, rfl, hs, ha⟩ := dp_lstI hv
    rw [dpAll_bls ha] at hs
    exact ⟨a, bs, rfl, vis_sub.seq hs, q _ H1 e1 (.bl _)⟩
theorem pu_sum {ns : List Int} (h1 : PuE K ta ρ (.list (ns.map PyData.int))) : PuE K (tCB (rSum K) (tCons ta tNil)) ρ (.int ns.sum) := fun M σ H hid en Q q =>
  h1 M σ H hid en _ fun v H1 e1 hv => by
    obtain ⟨a, vs, rfl, hs, ha⟩ := dp_lstI hv
    rw [dpAll_nums ha] at hs
    exact ⟨a, ns, rfl, vis_sub.seq hs, q _ H1 e1 (.int _)⟩
/-- a pure def: its data in, its data out -/
def spPu (K : PySem.W.Frag) (m : Nat) (g : List PyData → PyData → Prop) : Sp := fun vs H Q _ => ∃ M ds d, Hid M H ∧ vs.length = m ∧ DpAll K (vis M H) vs ds ∧ g ds d ∧ ∀ v H', Same H H' → Dp K (vis M H') v d → Q v H'
theorem pu_call {m : Nat} {g : List PyData → PyData → Prop} (h : PuA K tA ρ ds) (hm : ds.length = m := by rfl) (hg : g ds d) : PuE K (tCall (spPu K m g) [] E0 tA) ρ d := fun M σ H hid en Q q =>
  h M σ H hid en _ fun vs H1 e1 hvs => ⟨M, ds, d, hid.same e1, by rw [List.append_nil, dpAll_len hvs, hm], by rw [List.append_nil]; exact hvs, hg, fun v H' e2 hv => q v H' (e1.trans e2) hv⟩
/-! tests -/
theorem pu_tB {b : Bool} (h : PuE K te ρ (.bool b)) : PuT K (tB te) ρ b := fun M σ H hid en Q q => h M σ H hid en _ fun v H1 e1 hv => ⟨b, dp_blI hv, q H1 e1⟩
theorem pu_tTest {b : Bool} (h : PuE K te ρ (.bool b)) : PuT K (tTest te) ρ b := fun M σ H hid en Q q => h M σ H hid en _ fun v H1 e1 hv => ⟨b, dp_blI hv, q H1 e1⟩
theorem pu_tNot {b : Bool} (h : PuT K tt ρ b) : PuT K (tNot tt) ρ (!b) := fun M σ H hid en Q q => h M σ H hid en _ q
theorem pu_tAnd {b c : Bool} (h : PuT K tt ρ b) (k : b = true → PuT K tu ρ c) : PuT K (tAnd tt tu) ρ (b && c) := fun M σ H hid en Q q => h M σ H hid en _ fun H1 e1 => by
  cases b with
  | true => exact iteT (k rfl M σ H1 (hid.same e1) (en.same (vis_same e1)) _ fun H2 e2 => q H2 (e1.trans e2))
  | false => exact iteF (q H1 e1)
theorem pu_tOr {b c : Bool} (h : PuT K tt ρ b) (k : b = false → PuT K tu ρ c) : PuT K (tOr tt tu) ρ (b || c) := fun M σ H hid en Q q => h M σ H hid en _ fun H1 e1 => by
  cases b with
  | true => exact iteT (q H1 e1)
  | false => exact iteF (k rfl M σ H1 (hid.same e1) (en.same (vis_same e1)) _ fun H2 e2 => q H2 (e1.trans e2))
theorem pu_yes : PuT K tYes ρ true := fun M σ H hid en Q q => q H (Same.refl _)
theorem pu_and {b c : Bool} (h : PuE K ta ρ (.bool b)) (k : b = true → PuE K tb ρ (.bool c)) : PuE K (tAndV ta tb) ρ (.bool (b && c)) := fun M σ H hid en Q q => h M σ H hid en _ fun v H1 e1 hv => ⟨b, dp_blI hv, by
  cases b with
  | true => exact iteT (k rfl M σ H1 (hid.same e1) (en.same (vis_same e1)) _ fun u H2 e2 hu => q u H2 (e1.trans e2) hu)
  | false => exact iteF (q _ H1 e1 (.bl _))⟩
theorem pu_or {b c : Bool} (h : PuE K ta ρ (.bool b)) (k : b = false → PuE K tb ρ (.bool c)) : PuE K (tOrV ta tb) ρ (.bool (b || c)) := fun M σ H hid en Q q => h M σ H hid en _ fun v H1 e1 hv => ⟨b, dp_blI hv, by
  cases b with
  | true => exact iteT (q _ H1 e1 (.bl _))
  | false => exact iteF (k rfl M σ H1 (hid.same e1) (en.same (vis_same e1)) _ fun u H2 e2 hu => q u H2 (e1.trans e2) hu)⟩
theorem pu_not {b : Bool} (h : PuE K ta ρ (.bool b)) : PuE K (tNotV ta) ρ (.bool (!b)) := fun M σ H hid en Q q => h M σ H hid en _ fun v H1 e1 hv => ⟨b, dp_blI hv, q _ H1 e1 (.bl _)⟩
theorem pu_if {b : Bool} (h : PuT K tt ρ b) (k : b = true → PuE K ta ρ d) (k' : b = false → PuE K tb ρ d) : PuE K (tIf tt ta tb) ρ d := fun M σ H hid en Q q => h M σ H hid en _ fun H1 e1 => by
  cases b with
  | true => exact iteT (k rfl M σ H1 (hid.same e1) (en.same (vis_same e1)) _ fun v H2 e2 hv => q v H2 (e1.trans e2) hv)
  | false => exact iteF (k' rfl M σ H1 (hid.same e1) (en.same (vis_same e1)) _ fun v H2 e2 hv => q v H2 (e1.trans e2) hv)
end
end Lm
set_option Elab.async false
set_option linter.all false
set_option maxRecDepth 100000
set_option maxHeartbeats 400000
/-! pure readings: walks, comprehensions, statements -/
namespace Lm
open PySem PySem.Spec PyProof.Rows L2
/-- an iterator that yields these data wherever G stands -/
structure ItD (K : PySem.W.Frag) (J : It) (G : Hp) (ds : List PyData) : Prop where
  go : ∀ i H, Same G H → i < ds.length → J.go i H
  st : ∀ i H, Same G H → ds.length ≤ i → J.stop i H
  yl : ∀ i H x H' d, Same G H → ds[i]? = some d → J.yld i H x H' → Same H H' ∧ ∀ N : Addr → Bool, Hid N H → Same G (vis N H) → Dp K (vis N H') x d
def PuI (K : PySem.W.Frag) (wi : TI) (ρ : Rho) (ds : List PyData) : Prop := ∀ (M : Addr → Bool) σ H, Hid M H → EnvD K (vis M H) σ ρ → ∀ R : It → Hp → Prop, (∀ J H', Same H H' → ItD K J (vis M H') ds → R J H') → wi σ H R
/-- a target takes the data d -/
def PuG (K : PySem.W.Frag) (g : TG) (vs : List Nat) (ρ : Rho) (d : PyData) (ρ' : Rho) : Prop := ∀ (M : Addr → Bool) σ H v, EnvD K (vis M H) σ ρ → Dp K (vis M H) v d → ∀ R : L2.St → Hp → Prop, (∀ σ', EnvD K (vis M H) σ' ρ' → wipe σ' vs = wipe σ vs → R σ' H) → g v σ H R
def wipeR (ρ : Rho) : List Nat → Rho
  | [] => ρ
  | v :: vs => (wipeR ρ vs).set v none
theorem EnvD.wipe {K : PySem.W.Frag} {H : Hp} {σ : L2.St} {ρ : Rho} (h : EnvD K H σ ρ) : ∀ vs : List Nat, EnvD K H (L2.wipe σ vs) (wipeR ρ vs)
  | [] => h
  | v :: vs => (EnvD.wipe h vs).drop v
section
variable {K : PySem.W.Frag} {ρ ρ' ρ'' : Rho} {te ta tb tc : TE} {tA : TA} {tt tu : TT} {d e : PyData} {ds es : List PyData} {wi : TI} {g : TG} {vs : List Nat}
/-! ### what is walked -/
theorem PuI.cast (h : PuI K wi ρ ds) (e : ds = es) : PuI K wi ρ es := e ▸ h
theorem pui_list (h : PuE K te ρ (.list ds)) : PuI K (iList K te) ρ ds := fun M σ H hid en R r => h M σ H hid en _ fun v H1 e1 hv => by
  obtain ⟨a, xs, rfl, hs, ha⟩ := dp_lstI hv
  have hl := dpAll_len ha
  refine ⟨a, rfl, ⟨xs, vis_sub.seq hs⟩, r _ H1 e1 ⟨fun i H' s hi => ?_, fun i H' s hi => ⟨xs, s.seq hs, by omega⟩, fun i H' x H'' d s hd y => ?_⟩⟩
  · have : i < xs.length := by omega
    exact ⟨xs, xs[i], s.seq hs, List.getElem?_eq_getElem this⟩
  · obtain ⟨rfl, y⟩ := y
    have hx := y xs (s.seq hs)
    obtain ⟨d', hd', hv⟩ := dpAll_get ha hx
    rw [hd] at hd'
    cases hd'
    exact ⟨Same.refl _, fun N hN s2 => dp_same s2 _ _ hv⟩
theorem pui_tup (h : PuE K te ρ (.tuple ds)) : PuI K (iTup K te) ρ ds := fun M σ H hid en R r => h M σ H hid en _ fun v H1 e1 hv => by
  obtain ⟨a, xs, rfl, hs, ha⟩ := dp_tupI hv
  have hl := dpAll_len ha
  refine ⟨a, rfl, ⟨xs, sqT_same vis_sub hs⟩, r _ H1 e1 ⟨fun i H' s hi => ?_, fun i H' s hi => ⟨xs, sqT_same s hs, by omega⟩, fun i H' x H'' d s hd y => ?_⟩⟩
  · have : i < xs.length := by omega
    exact ⟨xs, xs[i], sqT_same s hs, List.getElem?_eq_getElem this⟩
  · obtain ⟨rfl, y⟩ := y
    have hx := y xs (sqT_same s hs)
    obtain ⟨d', hd', hv⟩ := dpAll_get ha hx
    rw [hd] at hd'
    cases hd'
    exact ⟨Same.refl _, fun N hN s2 => dp_same s2 _ _ hv⟩
theorem itd_rng (G : Hp) (lo : Int) (n : Nat) : ItD K (Itr lo n) G ((List.range n).map fun (i : Nat) => PyData.int (lo + (i : Int))) := by
  refine ⟨fun i H' s hi => ?_, fun i H' s hi => ?_, fun i H' x H'' d s hd y => ?_⟩
  · rw [List.length_map, List.length_range] at hi
    exact hi
  · rw [List.length_map, List.length_range] at hi
    exact hi
  · obtain ⟨rfl, rfl⟩ := y
    refine ⟨Same.refl _, fun N hN s2 => ?_⟩
    rw [List.getElem?_map] at hd
    cases q : (List.range n)[i]? with
    | none => rw [q] at hd; cases hd
    | some j =>
      rw [q] at hd
      have e := List.getElem?_eq_some_iff.mp q
      obtain ⟨e1, e2⟩ := e
      rw [List.getElem_range] at e2
      subst e2
      cases hd
      exact .int _
theorem pui_rng1 {n : Int} (h : PuE K te ρ (.int n)) (h0 : -(2 ^ 62) ≤ n) (h1 : n < 2 ^ 62) : PuI K (iRng1 (tCons te tNil)) ρ ((List.range n.toNat).map fun (i : Nat) => PyData.int (0 + (i : Int))) := fun M σ H hid en R r => h M σ H hid en _ fun v H1 e1 hv =>
  ⟨n, by rw [dp_intI hv], h0, h1, r _ H1 e1 (itd_rng _ 0 _)⟩
theorem pui_rng2 {m n : Int} (h : PuE K ta ρ (.int m)) (k : PuE K tb ρ (.int n)) (b : -(2 ^ 62) ≤ m ∧ m < 2 ^ 62 ∧ -(2 ^ 62) ≤ n ∧ n < 2 ^ 62) : PuI K (iRng2 (tCons ta (tCons tb tNil))) ρ ((List.range (n - m).toNat).map fun (i : Nat) => PyData.int (m + (i : Int))) := fun M σ H hid en R r => h M σ H hid en _ fun v H1 e1 hv => k M σ H1 (hid.same e1) (en.same (vis_same e1)) _ fun u H2 e2 hu =>
  ⟨m, n, by rw [dp_intI hv, dp_intI hu], b, r _ H2 (e1.trans e2) (itd_rng _ m _)⟩
theorem pui_zip (h : PuE K ta ρ (.list ds)) (k : PuE K tb ρ (.list es)) : PuI K (iZip K (tCons ta (tCons tb tNil))) ρ ((ds.zip es).map fun p => PyData.tuple [p.1, p.2]) := fun M σ H hid en R r => h M σ H hid en _ fun v H1 e1 hv => k M σ H1 (hid.same e1) (en.same (vis_same e1)) _ fun u H2 e2 hu => by
  obtain ⟨a, xs, rfl, hs, ha⟩ := dp_lstI (dp_same (vis_same e2) _ _ hv)
  obtain ⟨b, ys, rfl, ks, kb⟩ := dp_lstI hu
  have hl := dpAll_len ha
  have kl := dpAll_len kb
  refine ⟨a, b, xs, ys, rfl, vis_sub.seq hs, vis_sub.seq ks, r _ H2 (e1.trans e2) ⟨fun i H' s hi => ?_, fun i H' s hi => ⟨xs, ys, s.seq hs, s.seq ks, ?_⟩, fun i H' x H'' d s hd y => ?_⟩⟩
  · rw [List.length_map, List.length_zip] at hi
    have i1 : i < xs.length := by omega
    have i2 : i < ys.length := by omega
    exact ⟨xs, ys, xs[i], ys[i], s.seq hs, s.seq ks, List.getElem?_eq_getElem i1, List.getElem?_eq_getElem i2⟩
  · rw [List.length_map, List.length_zip] at hi
    omega
  · obtain ⟨T, x1, y1, rfl, nT, rfl, q1, q2⟩ := y
    have p1 := q1 xs (s.seq hs)
    have p2 := q2 ys (s.seq ks)
    obtain ⟨d1, hd1, hv1⟩ := dpAll_get ha p1
    obtain ⟨d2, hd2, hv2⟩ := dpAll_get kb p2
    refine ⟨same_new nT _, fun N hN s2 => ?_⟩
    have ed : d = .tuple [d1, d2] := by
      rw [List.getElem?_map, List.getElem?_zip_eq_some.mpr (show ds[i]? = some (d1, d2).1 ∧ es[i]? = some (d1, d2).2 from ⟨hd1, hd2⟩)] at hd
      exact (Option.some.inj hd).symm
    subst ed
    have up := vis_same (M := N) (same_new nT (HO.tup [x1, y1]))
    exact .tup (SqT.of (vis_new hN nT)) (.cons (dp_same (s2.trans up) _ _ hv1) (.cons (dp_same (s2.trans up) _ _ hv2) .nil))
/-! ### targets -/
theorem wipe_set1 (σ : L2.St) (j : Nat) (x : Option V) : wipe (σ.set j x) [j] = wipe σ [j] := by
  show (σ.set j x).set j none = σ.set j none
  rw [List.set_set]
theorem pug_name (j : Nat) : PuG K (gName j) [j] ρ d (ρ.set j (some d)) := fun M σ H v en hd R r => r _ (en.put hd j) (wipe_set1 _ _ _)
theorem wipe_set2 (σ : L2.St) (j k : Nat) (x y : Option V) : wipe ((σ.set j x).set k y) [j, k] = wipe σ [j, k] := by
  show (((σ.set j x).set k y).set k none).set j none = (σ.set k none).set j none
  apply List.ext_getElem?
  intro i
  simp only [List.getElem?_set, List.length_set]
  by_cases a : j = i <;> by_cases b : k = i <;> simp [a, b]
theorem pug_two (j k : Nat) : PuG K (gTup K 2 (gCons (gName j) (gCons (gName k) gNil))) [j, k] ρ (.tuple [d, e]) ((ρ.set j (some d)).set k (some e)) := fun M σ H v en hd R r => by
  obtain ⟨a, xs, rfl, hs, ha⟩ := dp_tupI hd
  cases ha with
  | cons h1 ha =>
    cases ha with
    | cons h2 ha =>
      cases ha
      exact ⟨a, _, rfl, sqT_same vis_sub hs, rfl, _, _, rfl, _, _, rfl, rfl, r _ ((en.put h1 j).put h2 k) (wipe_set2 _ _ _ _ _)⟩
theorem wipe_set3 (σ : L2.St) (j k l : Nat) (x y z : Option V) : wipe (((σ.set j x).set k y).set l z) [j, k, l] = wipe σ [j, k, l] := by
  show (((((σ.set j x).set k y).set l z).set l none).set k none).set j none = ((σ.set l none).set k none).set j none
  apply List.ext_getElem?
  intro i
  simp only [List.getElem?_set, List.length_set]
  by_cases a : j = i <;> by_cases b : k = i <;> by_cases c : l = i <;> simp [a, b, c]
theorem pug_three {f : PyData} (j k l : Nat) : PuG K (gTup K 3 (gCons (gName j) (gCons (gName k) (gCons (gName l) gNil)))) [j, k, l] ρ (.tuple [d, e, f]) (((ρ.set j (some d)).set k (some e)).set l (some f)) := fun M σ H v en hd R r => by
  obtain ⟨a, xs, rfl, hs, ha⟩ := dp_tupI hd
  cases ha with
  | cons h1 ha =>
    cases ha with
    | cons h2 ha =>
      cases ha with
      | cons h3 ha =>
        cases ha
        exact ⟨a, _, rfl, sqT_same vis_sub hs, rfl, _, _, rfl, _, _, rfl, _, _, rfl, rfl, r _ (((en.put h1 j).put h2 k).put h3 l) (wipe_set3 _ _ _ _ _ _ _)⟩
/-! ### comprehensions -/
theorem vis_or_same {M : Addr → Bool} {D : Addr} {H : Hp} : Same (vis (fun b => M b || b == D) H) (vis M H) := fun b u h => by
  unfold vis at h ⊢
  split at h
  · cases h
  · rename_i c
    rw [Bool.or_eq_true, not_or] at c
    rw [if_neg c.1]
    exact h
theorem vis_upd {M : Addr → Bool} {D : Addr} {H : Hp} {o : HO} (h : M D = true) : vis M (upd H D o) = vis M H := by
  funext b
  unfold vis
  by_cases e : b = D
  · rw [e, h, if_pos rfl, if_pos rfl]
  · rw [upd_ne e]
theorem hid_or {M : Addr → Bool} {D : Addr} {H : Hp} {xs : List V} (h : Hid M H) (hD : H D = some (.lst xs)) : Hid (fun b => M b || b == D) H := fun p c => by
  rcases (Bool.or_eq_true _ _).mp c with c | c
  · exact h p c
  · exact .inl ⟨xs, by rw [eq_of_beq c]; exact hD⟩
theorem same_vis_or {M : Addr → Bool} {D : Addr} {H H' : Hp} (n : H D = none) (e : Same H H') : Same (vis M H) (vis (fun b => M b || b == D) H') := fun b u h => by
  have hb := vis_sub b u h
  have ne : (b == D) = false := beq_eq_false_iff_ne.mpr fun z => by rw [z, n] at hb; cases hb
  unfold vis at h ⊢
  split at h
  · cases h
  · rename_i c
    have c2 : ¬ (M b || b == D) = true := by rw [ne, Bool.or_false]; exact c
    show (if (M b || b == D) = true then none else H' b) = some u
    rw [if_neg c2]
    exact e b u h
theorem outs_take {α : Type} {xs : List α} {p : α → Bool} {f : α → PyData} {i : Nat} {x : α} (h : xs[i]? = some x) : ((xs.take (i + 1)).filter p).map f = ((xs.take i).filter p).map f ++ (if p x = true then [f x] else []) := by
  rw [List.take_succ, h, Option.toList_some, List.filter_append, List.map_append]
  cases c : p x with
  | true => rw [if_pos rfl, List.filter_cons_of_pos c]; rfl
  | false => rw [if_neg Bool.false_ne_true, List.filter_cons_of_neg (by rw [c]; exact Bool.false_ne_true)]; rfl
theorem pu_lc {α : Type} {xs : List α} {td : α → PyData} (hi : PuI K wi ρ (xs.map td)) (hl : xs.length ≤ 90000) (p : α → Bool) (f : α → PyData) (hb : ∀ x ∈ xs, ∃ ρ', PuG K g vs (wipeR ρ vs) (td x) ρ' ∧ PuT K tt ρ' (p x) ∧ (p x = true → PuE K te ρ' (f x))) (hw : ∀ σ : L2.St, wipe (wipe σ vs) vs = wipe σ vs) :
    PuE K (tLc wi g tt te vs) ρ (.list ((xs.filter p).map f)) := fun M σ H hid en Q q => hi M σ H hid en _ fun J H1 e1 it D nD => by
  have hid1 := hid.same e1
  have nM : M D = false := hid1.non nD
  generalize hM' : (fun b => M b || b == D) = M'
  have mD : M' D = true := by rw [← hM']; simp
  have fin : ∀ H acc, Same H1 H → H D = some (.lst acc) → DpAll K (vis M' H) acc ((xs.filter p).map f) → Q (.ref D) H := fun Hn acc s hD ha => by
    refine q (.ref D) Hn (e1.trans s) (.lst (SqL.of ?_) (dpAll_same (H := vis M' Hn) ?_ _ _ ha))
    · unfold vis
      rw [nM, if_neg Bool.false_ne_true]
      exact hD
    · rw [← hM']
      exact vis_or_same
  refine ⟨fun i m Hn => m = xs.length - i ∧ i ≤ xs.length ∧ Same H1 Hn ∧ ∃ acc, Hn D = some (.lst acc) ∧ acc.length ≤ i ∧ DpAll K (vis M' Hn) acc (((xs.take i).filter p).map f), ⟨_, rfl, Nat.zero_le _, same_new nD _, [], upd_same, Nat.le_refl _, ?_⟩, ?_⟩
  · rw [List.take_zero]
    exact .nil
  · rintro i m Hn ⟨rfl, ile, s, acc, hD, al, ha⟩
    have sv : Same (vis M H1) (vis M' Hn) := by
      rw [← hM']
      exact same_vis_or nD s
    have hidn : Hid M' Hn := by
      rw [← hM']
      exact hid_or (hid1.same s) hD
    by_cases c : i < xs.length
    · have hx : xs[i]? = some xs[i] := List.getElem?_eq_getElem c
      refine .inr ⟨it.go i Hn (sv.trans vis_sub) (by rw [List.length_map]; exact c), fun H' => Same H1 H' ∧ ∃ acc, H' D = some (.lst acc) ∧ acc.length ≤ i + 1 ∧ DpAll K (vis M' H') acc (((xs.take (i + 1)).filter p).map f), fun H' nx => ⟨_, by omega, rfl, c, nx⟩, fun x Hy y => ?_⟩
      obtain ⟨sy, dy⟩ := it.yl i Hn x Hy (td xs[i]) (sv.trans vis_sub) (by rw [List.getElem?_map, hx]; rfl) y
      have hdx := dy M' hidn sv
      obtain ⟨ρ', hg, ht, he⟩ := hb xs[i] (List.getElem_mem c)
      have en1 : EnvD K (vis M' Hy) (wipe σ vs) (wipeR ρ vs) := EnvD.wipe (en.same (((vis_same e1).trans sv).trans (vis_same sy))) vs
      refine hg M' (wipe σ vs) Hy x en1 hdx _ fun σ' en2 wq => ⟨wq.trans (hw σ), ?_⟩
      have hidy := hidn.same sy
      refine ht M' σ' Hy hidy en2 _ fun H3 e3 => ?_
      have s3 := sy.trans e3
      rw [outs_take (f := f) hx]
      cases b : p xs[i] with
      | false =>
        rw [if_neg Bool.false_ne_true, if_neg Bool.false_ne_true, List.append_nil]
        exact ⟨s.trans s3, acc, s3 _ _ hD, by omega, dpAll_same (vis_same s3) _ _ ha⟩
      | true =>
        rw [if_pos rfl, if_pos rfl]
        refine he b M' σ' H3 (hidy.same e3) (en2.same (vis_same e3)) _ fun u H4 e4 hu => ?_
        have s4 := s3.trans e4
        refine ⟨acc, s4 _ _ hD, sl1001 (by omega), same_upd (s.trans s4) nD, acc ++ [u], upd_same, by rw [List.length_append, List.length_singleton]; omega, ?_⟩
        rw [vis_upd mD]
        exact dpAll_app (dpAll_same (vis_same s4) _ _ ha) (.cons hu .nil)
    · have e : i = xs.length := by omega
      subst e
      rw [List.take_length] at ha
      exact .inl ⟨it.st _ Hn (sv.trans vis_sub) (by rw [List.length_map]; exact Nat.le_refl _), fin Hn acc s hD ha⟩
theorem wipe_one (σ : L2.St) (j : Nat) : wipe (wipe σ [j]) [j] = wipe σ [j] := by
  show (σ.set j none).set j none = σ.set j none
  rw [List.set_set]
theorem wipe_two (σ : L2.St) (j k : Nat) : wipe (wipe σ [j, k]) [j, k] = wipe σ [j, k] := by
  show (((σ.set k none).set j none).set k none).set j none = (σ.set k none).set j none
  apply List.ext_getElem?
  intro i
  simp only [List.getElem?_set, List.length_set]
  by_cases a : j = i <;> by_cases b : k = i <;> simp [a, b]
/-- one name, no test -/
theorem pu_map {α : Type} {xs : List α} {td : α → PyData} {j : Nat} (hi : PuI K wi ρ (xs.map td)) (hl : xs.length ≤ 90000) (f : α → PyData) (hb : ∀ x ∈ xs, PuE K te (ρ.set j (some (td x))) (f x)) :
    PuE K (tLc wi (gName j) tYes te [j]) ρ (.list (xs.map f)) := by
  have h := pu_lc (g := gName j) (vs := [j]) (tt := tYes) (te := te) hi hl (fun _ => true) f (fun x hx => ⟨_, pug_name j, pu_yes, fun _ => ?_⟩) (fun σ => wipe_one σ j)
  · rw [List.filter_eq_self.mpr fun _ _ => rfl] at h
    exact h
  · show PuE K te ((ρ.set j none).set j (some (td x))) (f x)
    rw [List.set_set]
    exact hb x hx
/-- one name and a test -/
theorem pu_fil {α : Type} {xs : List α} {td : α → PyData} {j : Nat} (hi : PuI K wi ρ (xs.map td)) (hl : xs.length ≤ 90000) (p : α → Bool) (f : α → PyData) (hb : ∀ x ∈ xs, PuT K tt (ρ.set j (some (td x))) (p x) ∧ (p x = true → PuE K te (ρ.set j (some (td x))) (f x))) :
    PuE K (tLc wi (gName j) tt te [j]) ρ (.list ((xs.filter p).map f)) := by
  refine pu_lc (g := gName j) (vs := [j]) (tt := tt) (te := te) hi hl p f (fun x hx => ⟨_, pug_name j, ?_⟩) (fun σ => wipe_one σ j)
  show PuT K tt ((ρ.set j none).set j (some (td x))) (p x) ∧ (p x = true → PuE K te ((ρ.set j none).set j (some (td x))) (f x))
  rw [List.set_set]
  exact hb x hx
/-- two names, no test -/
theorem pu_map2 {α : Type} {xs : List α} {td tf : α → PyData} {j k : Nat} (hi : PuI K wi ρ (xs.map fun x => .tuple [td x, tf x])) (hl : xs.length ≤ 90000) (f : α → PyData) (hb : ∀ x ∈ xs, PuE K te ((ρ.set j (some (td x))).set k (some (tf x))) (f x)) :
    PuE K (tLc wi (gTup K 2 (gCons (gName j) (gCons (gName k) gNil))) tYes te [j, k]) ρ (.list (xs.map f)) := by
  have h := pu_lc (g := gTup K 2 (gCons (gName j) (gCons (gName k) gNil))) (vs := [j, k]) (tt := tYes) (te := te) hi hl (fun _ => true) f (fun x hx => ⟨_, pug_two j k, pu_yes, fun _ => ?_⟩) (fun σ => wipe_two σ j k)
  · rw [List.filter_eq_self.mpr fun _ _ => rfl] at h
    exact h
  · show PuE K te (((((ρ.set k none).set j none).set j (some (td x)))).set k (some (tf x))) (f x)
    have e : ((((ρ.set k none).set j none).set j (some (td x)))).set k (some (tf x)) = (ρ.set j (some (td x))).set k (some (tf x)) := by
      apply List.ext_getElem?
      intro i
      simp only [List.getElem?_set, List.length_set]
      by_cases a : j = i <;> by_cases b : k = i <;> simp [a, b]
    rw [e]
    exact hb x hx
end
/-! ### statements -/
inductive Out where
  | rt (d : PyData)
  | nx (ρ : Rho)
  | ct (ρ : Rho)
  | bk (ρ : Rho)
def Post (K : PySem.W.Frag) (M : Addr → Bool) (H : Hp) (D : Ends) : Out → Prop
  | .rt d => ∀ v H', Same H H' → Dp K (vis M H') v d → D.rt v H'
  | .nx ρ => ∀ σ H', Same H H' → EnvD K (vis M H') σ ρ → D.nx σ H'
  | .ct ρ => ∀ σ H', Same H H' → EnvD K (vis M H') σ ρ → D.ct σ H'
  | .bk ρ => ∀ σ H', Same H H' → EnvD K (vis M H') σ ρ → D.bk σ H'
def PuS (K : PySem.W.Frag) (t : TS) (ρ : Rho) (o : Out) : Prop := ∀ (M : Addr → Bool) σ H, Hid M H → EnvD K (vis M H) σ ρ → ∀ D, Post K M H D o → t D σ H
theorem Post.same {K : PySem.W.Frag} {M : Addr → Bool} {H H' : Hp} {D : Ends} {o : Out} (h : Post K M H D o) (e : Same H H') : Post K M H' D o := by
  cases o with
  | rt d => exact fun v H2 e2 hv => h v H2 (e.trans e2) hv
  | nx ρ => exact fun v H2 e2 hv => h v H2 (e.trans e2) hv
  | ct ρ => exact fun v H2 e2 hv => h v H2 (e.trans e2) hv
  | bk ρ => exact fun v H2 e2 hv => h v H2 (e.trans e2) hv
section
variable {K : PySem.W.Frag} {ρ ρ' ρ'' : Rho} {te ta tb tc : TE} {tA : TA} {tt : TT} {d e : PyData} {ds es : List PyData} {wi : TI} {g : TG} {vs : List Nat} {t u : TS} {o : Out}
theorem PuS.cast {o' : Out} (h : PuS K t ρ o) (e : o = o') : PuS K t ρ o' := e ▸ h
theorem pus_ret (h : PuE K te ρ d) : PuS K (tRet te) ρ (.rt d) := fun M σ H hid en D q => h M σ H hid en _ q
theorem pus_retN : PuS K tRetN ρ (.rt .none) := fun M σ H hid en D q => q _ H (Same.refl _) .non
theorem pus_next : PuS K tNext ρ (.nx ρ) := fun M σ H hid en D q => q σ H (Same.refl _) en
theorem pus_cont : PuS K tCont ρ (.ct ρ) := fun M σ H hid en D q => q σ H (Same.refl _) en
theorem pus_drop (h : PuE K te ρ d) : PuS K (tDrop te) ρ (.nx ρ) := fun M σ H hid en D q => h M σ H hid en _ fun v H1 e1 _ => q σ H1 e1 (en.same (vis_same e1))
theorem pus_seq (h : PuS K t ρ (.nx ρ')) (k : PuS K u ρ' o) : PuS K (tSeq t u) ρ o := fun M σ H hid en D q =>
  h M σ H hid en _ fun σ1 H1 e1 en1 => k M σ1 H1 (hid.same e1) en1 D (q.same e1)
/-- what ends early -/
theorem pus_early (h : PuS K t ρ o) (n : ∀ ρ', o ≠ .nx ρ') : PuS K (tSeq t u) ρ o := fun M σ H hid en D q => h M σ H hid en _ (by
  cases o with
  | rt d => exact q
  | nx ρ => exact absurd rfl (n ρ)
  | ct ρ => exact q
  | bk ρ => exact q)
theorem pus_if {b : Bool} (h : PuT K tt ρ b) (k : b = true → PuS K t ρ o) (k' : b = false → PuS K u ρ o) : PuS K (tIfS tt t u) ρ o := fun M σ H hid en D q => h M σ H hid en _ fun H1 e1 => by
  cases b with
  | true => exact iteT (k rfl M σ H1 (hid.same e1) (en.same (vis_same e1)) D (q.same e1))
  | false => exact iteF (k' rfl M σ H1 (hid.same e1) (en.same (vis_same e1)) D (q.same e1))
/-- an if that returns, and what stands behind it -/
theorem pus_ifr {b : Bool} (h : PuT K tt ρ b) (k : b = true → ∃ e, o = .rt e ∧ PuS K t ρ (.rt e)) (k' : b = false → PuS K u ρ o) : PuS K (tSeq (tIfS tt t tNext) u) ρ o := by
  cases b with
  | true =>
    obtain ⟨e, rfl, h2⟩ := k rfl
    exact pus_early (pus_if h (fun _ => h2) (fun z => nomatch z)) (fun _ z => nomatch z)
  | false => exact pus_seq (pus_if h (fun z => nomatch z) (fun _ => pus_next)) (k' rfl)
theorem pus_skip (h : PuT K tt ρ false) (k : PuS K u ρ o) : PuS K (tSeq (tIfS tt t tNext) u) ρ o := pus_ifr h (fun z => nomatch z) fun _ => k
theorem pus_take (h : PuT K tt ρ true) (k : PuS K t ρ (.rt d)) : PuS K (tSeq (tIfS tt t tNext) u) ρ (.rt d) := pus_ifr h (fun _ => ⟨d, rfl, k⟩) fun z => nomatch z
theorem pu_eqS1 {i j : Str} (h1 : PuE K ta ρ (.str i)) (h2 : PuE K tb ρ (.str j)) (e : i = j) : PuT K (tTest (tOp rEq ta tb)) ρ true := pu_tTest ((pu_eqS h1 h2).cast (by rw [decide_eq_true e]))
theorem pu_eqS0 {i j : Str} (h1 : PuE K ta ρ (.str i)) (h2 : PuE K tb ρ (.str j)) (e : ¬ i = j) : PuT K (tTest (tOp rEq ta tb)) ρ false := pu_tTest ((pu_eqS h1 h2).cast (by rw [decide_eq_false e]))
theorem pus_set1 {i : Nat} (h : PuE K te ρ d) : PuS K (tAsg te (gName i)) ρ (.nx (ρ.set i (some d))) := fun M σ H hid en D q => h M σ H hid en _ fun v H1 e1 hv => q _ H1 e1 ((en.same (vis_same e1)).put hv i)
theorem pus_asg1 (h : PuE K te ρ d) (hg : PuG K g vs ρ d ρ') : PuS K (tAsg te g) ρ (.nx ρ') := fun M σ H hid en D q => h M σ H hid en _ fun v H1 e1 hv => hg M σ H1 v (en.same (vis_same e1)) hv _ fun σ' en' _ => q _ H1 e1 en'
theorem pus_set {i : Nat} (h : PuE K te ρ d) (k : PuS K u (ρ.set i (some d)) o) : PuS K (tSeq (tAsg te (gName i)) u) ρ o := pus_seq (ρ' := ρ.set i (some d)) (fun M σ H hid en D q => h M σ H hid en _ fun v H1 e1 hv => q _ H1 e1 ((en.same (vis_same e1)).put hv i)) k
theorem pus_asg (h : PuE K te ρ d) (hg : PuG K g vs ρ d ρ') (k : PuS K u ρ' o) : PuS K (tSeq (tAsg te g) u) ρ o := pus_seq (ρ' := ρ') (fun M σ H hid en D q => h M σ H hid en _ fun v H1 e1 hv => hg M σ H1 v (en.same (vis_same e1)) hv _ fun σ' en' _ => q _ H1 e1 en') k
/-- a loop that changes no slot but by F, to its end -/
theorem pus_for {α : Type} {xs : List α} {td : α → PyData} {tb : TS} (F : Nat → Rho) (hi : PuI K wi ρ (xs.map td)) (h0 : ρ = F 0)
    (hb : ∀ i x, xs[i]? = some x → ∃ ρ1, PuG K g vs (F i) (td x) ρ1 ∧ (PuS K tb ρ1 (.nx (F (i + 1))) ∨ PuS K tb ρ1 (.ct (F (i + 1))))) : PuS K (tFor wi g tb) ρ (.nx (F xs.length)) := fun M σ H hid en D q => hi M σ H hid en _ fun J H1 e1 it => by
  subst h0
  refine ⟨fun i m σ' Hn => m = xs.length - i ∧ i ≤ xs.length ∧ Same H1 Hn ∧ EnvD K (vis M Hn) σ' (F i), ⟨_, rfl, Nat.zero_le _, Same.refl _, en.same (vis_same e1)⟩, ?_⟩
  rintro i m σ' Hn ⟨rfl, ile, s, en'⟩
  by_cases c : i < xs.length
  · have hx : xs[i]? = some xs[i] := List.getElem?_eq_getElem c
    refine .inr ⟨it.go i Hn (vis_sub.trans s) (by rw [List.length_map]; exact c), fun σ'' H' => Same H1 H' ∧ EnvD K (vis M H') σ'' (F (i + 1)), fun σ'' H' nx => ⟨_, by omega, rfl, c, nx⟩, fun x Hy y => ?_⟩
    obtain ⟨sy, dy⟩ := it.yl i Hn x Hy (td xs[i]) (vis_sub.trans s) (by rw [List.getElem?_map, hx]; rfl) y
    have hidn := (hid.same e1).same s
    have hdx := dy M hidn (vis_same s)
    obtain ⟨ρ1, hg, ht⟩ := hb i xs[i] hx
    refine hg M σ' Hy x (en'.same (vis_same sy)) hdx _ fun σ2 en2 _ => ?_
    rcases ht with ht | ht
    · exact ht M σ2 Hy (hidn.same sy) en2 _ fun σ3 H3 e3 en3 => ⟨s.trans (sy.trans e3), en3⟩
    · exact ht M σ2 Hy (hidn.same sy) en2 _ fun σ3 H3 e3 en3 => ⟨s.trans (sy.trans e3), en3⟩
  · have e : i = xs.length := by omega
    subst e
    exact .inl ⟨it.st _ Hn (vis_sub.trans s) (by rw [List.length_map]; exact Nat.le_refl _), q σ' Hn (e1.trans s) en'⟩
/-- a loop whose turn k returns -/
theorem pus_forR {α : Type} {xs : List α} {td : α → PyData} {tb : TS} {k : Nat} (F : Nat → Rho) (hi : PuI K wi ρ (xs.map td)) (h0 : ρ = F 0) (hk : k < xs.length)
    (hb : ∀ i x, i < k → xs[i]? = some x → ∃ ρ1, PuG K g vs (F i) (td x) ρ1 ∧ (PuS K tb ρ1 (.nx (F (i + 1))) ∨ PuS K tb ρ1 (.ct (F (i + 1)))))
    (hr : ∀ x, xs[k]? = some x → ∃ ρ1, PuG K g vs (F k) (td x) ρ1 ∧ PuS K tb ρ1 (.rt d)) : PuS K (tFor wi g tb) ρ (.rt d) := fun M σ H hid en D q => hi M σ H hid en _ fun J H1 e1 it => by
  subst h0
  refine ⟨fun i m σ' Hn => m = xs.length - i ∧ i ≤ k ∧ Same H1 Hn ∧ EnvD K (vis M Hn) σ' (F i), ⟨_, rfl, Nat.zero_le _, Same.refl _, en.same (vis_same e1)⟩, ?_⟩
  rintro i m σ' Hn ⟨rfl, ile, s, en'⟩
  have c : i < xs.length := by omega
  have hx : xs[i]? = some xs[i] := List.getElem?_eq_getElem c
  refine .inr ⟨it.go i Hn (vis_sub.trans s) (by rw [List.length_map]; exact c), fun σ'' H' => i + 1 ≤ k ∧ Same H1 H' ∧ EnvD K (vis M H') σ'' (F (i + 1)), fun σ'' H' nx => ⟨_, by omega, rfl, nx⟩, fun x Hy y => ?_⟩
  obtain ⟨sy, dy⟩ := it.yl i Hn x Hy (td xs[i]) (vis_sub.trans s) (by rw [List.getElem?_map, hx]; rfl) y
  have hidn := (hid.same e1).same s
  have hdx := dy M hidn (vis_same s)
  by_cases ik : i < k
  · obtain ⟨ρ1, hg, ht⟩ := hb i xs[i] ik hx
    refine hg M σ' Hy x (en'.same (vis_same sy)) hdx _ fun σ2 en2 _ => ?_
    rcases ht with ht | ht
    · exact ht M σ2 Hy (hidn.same sy) en2 _ fun σ3 H3 e3 en3 => ⟨ik, s.trans (sy.trans e3), en3⟩
    · exact ht M σ2 Hy (hidn.same sy) en2 _ fun σ3 H3 e3 en3 => ⟨ik, s.trans (sy.trans e3), en3⟩
  · have e : i = k := by omega
    subst e
    obtain ⟨ρ1, hg, ht⟩ := hr xs[i] hx
    refine hg M σ' Hy x (en'.same (vis_same sy)) hdx _ fun σ2 en2 _ => ?_
    exact ht M σ2 Hy (hidn.same sy) en2 _ fun v H3 e3 hv => q v H3 (e1.trans (s.trans (sy.trans e3))) hv
end
end Lm
set_option Elab.async false
set_option linter.all false
set_option maxRecDepth 100000
set_option maxHeartbeats 400000
/-! readings of defs that grow lists of their own -/
namespace Lm
open PySem PySem.Spec PyProof.Rows L2
/-- a slot: data, or a list of the def's own -/
inductive Ent where
  | d (x : PyData)
  | o (ds : List PyData)
abbrev RhoO := List (Option Ent)
def Ent.seen : Ent → PyData
  | .d x => x
  | .o ds => .list ds
def Ent.hide : Ent → Option PyData
  | .d x => some x
  | .o _ => none
/-- the slots, own lists seen as data -/
def seen (ρ : RhoO) : Rho := ρ.map (·.map Ent.seen)
/-- .. and hidden -/
def hidn (ρ : RhoO) : Rho := ρ.map (·.bind Ent.hide)
structure EnvM (K : PySem.W.Frag) (M M' : Addr → Bool) (H0 H : Hp) (σ : L2.St) (ρ : RhoO) : Prop where
  le : ∀ b, M b = true → M' b = true
  hid : Hid M' H
  same : Same H0 H
  len : σ.length = ρ.length
  new : ∀ b, M' b = true → M b = true ∨ H0 b = none
  dat : ∀ (i : Nat) (x : PyData), ρ[i]? = some (some (.d x)) → ∃ v, σ[i]? = some (some v) ∧ Dp K (vis M' H) v x
  own : ∀ (i : Nat) (ds : List PyData), ρ[i]? = some (some (.o ds)) → ∃ p vs, σ[i]? = some (some (.ref p)) ∧ H p = some (.lst vs) ∧ M' p = true ∧ M p = false ∧ H0 p = none ∧ DpAll K (vis M' H) vs ds
  dif : ∀ (i j : Nat) (ds es : List PyData) (p : Addr), i ≠ j → ρ[i]? = some (some (.o ds)) → ρ[j]? = some (some (.o es)) → σ[i]? = some (some (.ref p)) → σ[j]? = some (some (.ref p)) → False
def EnvO (K : PySem.W.Frag) (M : Addr → Bool) (H0 H : Hp) (σ : L2.St) (ρ : RhoO) : Prop := ∃ M', EnvM K M M' H0 H σ ρ
section
variable {K : PySem.W.Frag} {M M' : Addr → Bool} {H0 H H' : Hp} {σ : L2.St} {ρ : RhoO} {v : V} {x : PyData}
theorem vis_le (h : ∀ b, M b = true → M' b = true) : Same (vis M' H) (vis M H) := fun b u q => by
  unfold vis at q ⊢
  split at q
  · cases q
  · rename_i c
    rw [if_neg fun z => c (h b z)]
    exact q
theorem EnvM.hidM (h : EnvM K M M' H0 H σ ρ) : Hid M H := fun p c => h.hid p (h.le p c)
theorem EnvM.next (h : EnvM K M M' H0 H σ ρ) (e : Same H H') : EnvM K M M' H0 H' σ ρ :=
  ⟨h.le, h.hid.same e, h.same.trans e, h.len, h.new, fun i x q => (h.dat i x q).imp fun v p => ⟨p.1, dp_same (vis_same e) _ _ p.2⟩,
   fun i ds q => by
    obtain ⟨p, vs, a, b, c, d, f, g⟩ := h.own i ds q
    exact ⟨p, vs, a, e _ _ b, c, d, f, dpAll_same (vis_same e) _ _ g⟩, h.dif⟩
theorem EnvM.hidn (h : EnvM K M M' H0 H σ ρ) : EnvD K (vis M' H) σ (hidn ρ) := by
  refine ⟨by rw [h.len]; unfold Lm.hidn; rw [List.length_map], fun i d q => ?_⟩
  unfold Lm.hidn at q
  rw [List.getElem?_map] at q
  cases e : ρ[i]? with
  | none => rw [e] at q; cases q
  | some y =>
    rw [e] at q
    cases y with
    | none => cases q
    | some y =>
      cases y with
      | d x => cases q; exact h.dat i _ e
      | o ds => cases q
theorem EnvM.seen (h : EnvM K M M' H0 H σ ρ) : EnvD K (vis M H) σ (seen ρ) := by
  refine ⟨by rw [h.len]; unfold Lm.seen; rw [List.length_map], fun i d q => ?_⟩
  unfold Lm.seen at q
  rw [List.getElem?_map] at q
  cases e : ρ[i]? with
  | none => rw [e] at q; cases q
  | some y =>
    rw [e] at q
    cases y with
    | none => cases q
    | some y =>
      cases y with
      | d x => cases q; exact (h.dat i _ e).imp fun v p => ⟨p.1, dp_same (vis_le h.le) _ _ p.2⟩
      | o ds =>
        cases q
        obtain ⟨p, vs, a, b, c, d, f, g⟩ := h.own i ds e
        refine ⟨_, a, .lst (SqL.of ?_) (dpAll_same (vis_le h.le) _ _ g)⟩
        unfold vis
        rw [d, if_neg Bool.false_ne_true]
        exact b
theorem getset {α : Type} {l : List α} {i j : Nat} {a b : α} (h : (l.set i a)[j]? = some b) : (i = j ∧ i < l.length ∧ a = b) ∨ (i ≠ j ∧ l[j]? = some b) := by
  by_cases c : i = j
  · subst c
    by_cases d : i < l.length
    · rw [List.getElem?_set_self d] at h
      exact .inl ⟨rfl, d, Option.some.inj h⟩
    · rw [List.getElem?_eq_none (by rw [List.length_set]; omega)] at h
      cases h
  · rw [List.getElem?_set_ne c] at h
    exact .inr ⟨c, h⟩
theorem EnvM.put (h : EnvM K M M' H0 H σ ρ) (hd : Dp K (vis M' H) v x) (i : Nat) : EnvM K M M' H0 H (σ.set i (some v)) (ρ.set i (some (.d x))) := by
  refine ⟨h.le, h.hid, h.same, by rw [List.length_set, List.length_set, h.len], h.new, fun j y q => ?_, fun j ds q => ?_, fun j k ds es p n q1 q2 s1 s2 => ?_⟩
  · rcases getset q with ⟨rfl, l, e⟩ | ⟨c, q⟩
    · cases e
      exact ⟨v, List.getElem?_set_self (by rw [h.len]; exact l), hd⟩
    · obtain ⟨u, a, b⟩ := h.dat j y q
      exact ⟨u, by rw [List.getElem?_set_ne c]; exact a, b⟩
  · rcases getset q with ⟨rfl, l, e⟩ | ⟨c, q⟩
    · cases e
    · obtain ⟨p, vs, a, b⟩ := h.own j ds q
      exact ⟨p, vs, by rw [List.getElem?_set_ne c]; exact a, b⟩
  · rcases getset q1 with ⟨rfl, l, e⟩ | ⟨c, q1⟩
    · cases e
    rcases getset q2 with ⟨rfl, l, e⟩ | ⟨c2, q2⟩
    · cases e
    rw [List.getElem?_set_ne c] at s1
    rw [List.getElem?_set_ne c2] at s2
    exact h.dif j k ds es p n q1 q2 s1 s2
/-- a new list of the def's own -/
theorem EnvM.lay {p : Addr} {vs : List V} {ds : List PyData} (h : EnvM K M M' H0 H σ ρ) (np : H p = none) (ha : DpAll K (vis M' H) vs ds) (i : Nat) : EnvO K M H0 (upd H p (.lst vs)) (σ.set i (some (.ref p))) (ρ.set i (some (.o ds))) := by
  have n0 : H0 p = none := by
    cases e : H0 p with
    | none => rfl
    | some u => rw [h.same _ _ e] at np; cases np
  have nM' : M' p = false := h.hid.non np
  have nM : M p = false := by
    cases e : M p with
    | false => rfl
    | true => rw [h.le p e] at nM'; cases nM'
  have sn := same_new np (HO.lst vs)
  have sv : Same (vis M' H) (vis (fun b => M' b || b == p) (upd H p (.lst vs))) := same_vis_or np sn
  refine ⟨fun b => M' b || b == p, fun b z => by rw [h.le b z]; rfl, hid_or (h.hid.same sn) upd_same, h.same.trans sn, by rw [List.length_set, List.length_set, h.len], fun b z => ?_, fun j y q => ?_, fun j es q => ?_, fun j k es fs q n q1 q2 s1 s2 => ?_⟩
  · rcases (Bool.or_eq_true _ _).mp z with z | z
    · exact h.new b z
    · rw [eq_of_beq z]; exact .inr n0
  · rcases getset q with ⟨rfl, l, e⟩ | ⟨c, q⟩
    · cases e
    · obtain ⟨u, a, b⟩ := h.dat j y q
      exact ⟨u, by rw [List.getElem?_set_ne c]; exact a, dp_same sv _ _ b⟩
  · rcases getset q with ⟨rfl, l, e⟩ | ⟨c, q⟩
    · cases e
      exact ⟨p, vs, List.getElem?_set_self (by rw [h.len]; exact l), upd_same, by simp, nM, n0, dpAll_same sv _ _ ha⟩
    · obtain ⟨r, ws, a, b, c1, c2, c3, c4⟩ := h.own j es q
      exact ⟨r, ws, by rw [List.getElem?_set_ne c]; exact a, sn _ _ b, by rw [c1]; rfl, c2, c3, dpAll_same sv _ _ c4⟩
  · have fresh : ∀ (j : Nat) (es : List PyData), ρ[j]? = some (some (.o es)) → σ[j]? = some (some (.ref p)) → False := fun j es q s => by
      obtain ⟨r, ws, a, b, _⟩ := h.own j es q
      rw [s] at a
      cases a
      rw [np] at b
      cases b
    rcases getset q1 with ⟨rfl, l, e⟩ | ⟨c, q1⟩
    · rw [List.getElem?_set_self (by rw [h.len]; exact l)] at s1
      cases s1
      rcases getset q2 with ⟨z, _⟩ | ⟨c2, q2⟩
      · exact n z
      · rw [List.getElem?_set_ne c2] at s2
        exact fresh k fs q2 s2
    · rw [List.getElem?_set_ne c] at s1
      rcases getset q2 with ⟨rfl, l, e⟩ | ⟨c2, q2⟩
      · rw [List.getElem?_set_self (by rw [h.len]; exact l)] at s2
        cases s2
        exact fresh j es q1 s1
      · rw [List.getElem?_set_ne c2] at s2
        exact h.dif j k es fs q n q1 q2 s1 s2
/-- an own list is written -/
theorem EnvM.write {p : Addr} {vs : List V} {ds es : List PyData} {i : Nat} (h : EnvM K M M' H0 H σ ρ) (hi : ρ[i]? = some (some (.o ds))) (hp : σ[i]? = some (some (.ref p))) (ha : DpAll K (vis M' H) vs es) : EnvM K M M' H0 (upd H p (.lst vs)) σ (ρ.set i (some (.o es))) := by
  obtain ⟨r, ws, a, b, c1, c2, c3, c4⟩ := h.own i ds hi
  rw [hp] at a
  cases a
  have ve : vis M' (upd H p (.lst vs)) = vis M' H := vis_upd c1
  have il : i < σ.length := (List.getElem?_eq_some_iff.mp hp).1
  refine ⟨h.le, fun q c => ?_, fun q u z => ?_, by rw [List.length_set, h.len], h.new, fun j y q => ?_, fun j fs q => ?_, fun j k fs gs q n q1 q2 s1 s2 => ?_⟩
  · by_cases e : q = p
    · rw [e]; exact .inl ⟨vs, upd_same⟩
    · rw [upd_ne e]; exact h.hid q c
  · rw [upd_ne fun e => by rw [e, c3] at z; cases z]
    exact h.same _ _ z
  · rw [ve]
    rcases getset q with ⟨rfl, l, e⟩ | ⟨c, q⟩
    · cases e
    · exact h.dat j y q
  · rw [ve]
    rcases getset q with ⟨rfl, l, e⟩ | ⟨c, q⟩
    · cases e
      exact ⟨p, vs, hp, upd_same, c1, c2, c3, ha⟩
    · obtain ⟨r, us, a, b', d1, d2, d3, d4⟩ := h.own j fs q
      have ne : r ≠ p := fun e => h.dif i j ds fs p c hi q hp (e ▸ a)
      exact ⟨r, us, a, by rw [upd_ne ne]; exact b', d1, d2, d3, d4⟩
  · have old : ∀ (j : Nat) (es' : List PyData), (ρ.set i (some (.o es)))[j]? = some (some (.o es')) → ∃ ds', ρ[j]? = some (some (.o ds')) := fun j es' z => by
      rcases getset z with ⟨rfl, l, e⟩ | ⟨c, z⟩
      · exact ⟨_, hi⟩
      · exact ⟨_, z⟩
    obtain ⟨x1, z1⟩ := old j fs q1
    obtain ⟨x2, z2⟩ := old k gs q2
    exact h.dif j k x1 x2 q n z1 z2 s1 s2
/-- an own list is data from now on -/
theorem EnvM.freeze {ds : List PyData} {i : Nat} (h : EnvM K M M' H0 H σ ρ) (hi : ρ[i]? = some (some (.o ds))) : EnvO K M H0 H σ (ρ.set i (some (.d (.list ds)))) := by
  obtain ⟨p, ws, a, b, c1, c2, c3, c4⟩ := h.own i ds hi
  have le : ∀ q, (M' q && !(q == p)) = true → M' q = true := fun q z => ((Bool.and_eq_true _ _).mp z).1
  have sv : Same (vis M' H) (vis (fun q => M' q && !(q == p)) H) := vis_le le
  refine ⟨fun q => M' q && !(q == p), fun q z => ?_, fun q z => h.hid q (le q z), h.same, by rw [List.length_set, h.len], fun q z => h.new q (le q z), fun j y q => ?_, fun j fs q => ?_, fun j k fs gs q n q1 q2 s1 s2 => ?_⟩
  · have ne : (q == p) = false := beq_eq_false_iff_ne.mpr fun e => by rw [e, c2] at z; cases z
    rw [h.le q z, ne]
    rfl
  · rcases getset q with ⟨rfl, l, e⟩ | ⟨c, q⟩
    · cases e
      refine ⟨_, a, .lst (SqL.of ?_) (dpAll_same sv _ _ c4)⟩
      unfold vis
      have : ¬ (M' p && !(p == p)) = true := by simp
      rw [if_neg this]
      exact b
    · obtain ⟨u, a', b'⟩ := h.dat j y q
      exact ⟨u, a', dp_same sv _ _ b'⟩
  · rcases getset q with ⟨rfl, l, e⟩ | ⟨c, q⟩
    · cases e
    · obtain ⟨r, us, a', b', d1, d2, d3, d4⟩ := h.own j fs q
      have ne : (r == p) = false := beq_eq_false_iff_ne.mpr fun e => h.dif i j ds fs p c hi q a (e ▸ a')
      exact ⟨r, us, a', b', by rw [d1, ne]; rfl, d2, d3, dpAll_same sv _ _ d4⟩
  · rcases getset q1 with ⟨rfl, l, e⟩ | ⟨c, q1⟩
    · cases e
    rcases getset q2 with ⟨rfl, l, e⟩ | ⟨c2, q2⟩
    · cases e
    exact h.dif j k fs gs q n q1 q2 s1 s2
/-- what is visible now is not written henceforth -/
theorem EnvM.base (h : EnvM K M M' H0 H σ ρ) : ∃ Hb, EnvM K M M' Hb H σ ρ ∧ Same H0 Hb ∧ (∀ b u, vis M' H b = some u → Hb b = some u) := by
  refine ⟨fun b => if (H0 b).isSome = true then H0 b else vis M' H b, ⟨h.le, h.hid, fun b u z => ?_, h.len, fun b z => ?_, h.dat, fun i ds q => ?_, h.dif⟩, fun b u z => ?_, fun b u z => ?_⟩
  · have z : (if (H0 b).isSome = true then H0 b else vis M' H b) = some u := z
    split at z
    · exact h.same _ _ z
    · exact vis_sub _ _ z
  · rcases h.new b z with n | n
    · exact .inl n
    · refine .inr ?_
      show (if (H0 b).isSome = true then H0 b else vis M' H b) = none
      rw [n]
      unfold vis
      rw [z]
      rfl
  · obtain ⟨p, vs, a, b, c, d, f, g⟩ := h.own i ds q
    refine ⟨p, vs, a, b, c, d, ?_, g⟩
    show (if (H0 p).isSome = true then H0 p else vis M' H p) = none
    rw [f]
    unfold vis
    rw [c]
    rfl
  · show (if (H0 b).isSome = true then H0 b else vis M' H b) = some u
    rw [z]
    rfl
  · show (if (H0 b).isSome = true then H0 b else vis M' H b) = some u
    split
    · rename_i c
      obtain ⟨w, e⟩ := Option.isSome_iff_exists.mp c
      have z2 := vis_sub b u z
      rw [h.same _ _ e] at z2
      rw [e]
      exact z2
    · exact z
end
inductive OutO where
  | rt (d : PyData)
  | ro (ds : List PyData)
  | nx (ρ : RhoO)
  | ct (ρ : RhoO)
  | bk (ρ : RhoO)
def PostO (K : PySem.W.Frag) (M : Addr → Bool) (H0 : Hp) (D : Ends) : OutO → Prop
  | .rt d => ∀ v H', Same H0 H' → Dp K (vis M H') v d → D.rt v H'
  | .ro ds => ∀ p xs H', Same H0 H' → H0 p = none → M p = false → H' p = some (.lst xs) → DpAll K (vis (fun b => M b || b == p) H') xs ds → D.rt (.ref p) H'
  | .nx ρ => ∀ σ H', EnvO K M H0 H' σ ρ → D.nx σ H'
  | .ct ρ => ∀ σ H', EnvO K M H0 H' σ ρ → D.ct σ H'
  | .bk ρ => ∀ σ H', EnvO K M H0 H' σ ρ → D.bk σ H'
def PuO (K : PySem.W.Frag) (t : TS) (ρ : RhoO) (o : OutO) : Prop := ∀ (M : Addr → Bool) H0 H σ, EnvO K M H0 H σ ρ → ∀ D, PostO K M H0 D o → t D σ H
/-- a target over slots of both kinds -/
def PgO (K : PySem.W.Frag) (g : TG) (ρ : RhoO) (d : PyData) (ρ' : RhoO) : Prop := ∀ (M M' : Addr → Bool) H0 H σ v, EnvM K M M' H0 H σ ρ → Dp K (vis M' H) v d → ∀ R : L2.St → Hp → Prop, (∀ σ', EnvM K M M' H0 H σ' ρ' → R σ' H) → g v σ H R
section
variable {K : PySem.W.Frag} {ρ ρ' ρ'' : RhoO} {te ta tb tc : TE} {tA : TA} {tt : TT} {d e : PyData} {ds es : List PyData} {wi : TI} {g : TG} {vs : List Nat} {t u : TS} {o : OutO}
theorem PuO.cast {o' : OutO} (h : PuO K t ρ o) (e : o = o') : PuO K t ρ o' := e ▸ h
theorem puo_ret (h : PuE K te (seen ρ) d) : PuO K (tRet te) ρ (.rt d) := fun M H0 H σ ⟨M', en⟩ D q => h M σ H en.hidM en.seen _ fun v H1 e1 hv => q v H1 (en.same.trans e1) hv
theorem puo_retN : PuO K tRetN ρ (.rt .none) := fun M H0 H σ ⟨M', en⟩ D q => q _ H en.same .non
theorem puo_next : PuO K tNext ρ (.nx ρ) := fun M H0 H σ en D q => q σ H en
theorem puo_cont : PuO K tCont ρ (.ct ρ) := fun M H0 H σ en D q => q σ H en
theorem puo_seq (h : PuO K t ρ (.nx ρ')) (k : PuO K u ρ' o) : PuO K (tSeq t u) ρ o := fun M H0 H σ en D q =>
  h M H0 H σ en _ fun σ1 H1 en1 => k M H0 H1 σ1 en1 D q
theorem puo_early (h : PuO K t ρ o) (n : ∀ ρ', o ≠ .nx ρ') : PuO K (tSeq t u) ρ o := fun M H0 H σ en D q => h M H0 H σ en _ (by
  cases o with
  | rt d => exact q
  | ro d => exact q
  | nx ρ => exact absurd rfl (n ρ)
  | ct ρ => exact q
  | bk ρ => exact q)
/-- a slot forgotten -/
theorem EnvM.forget {M M' : Addr → Bool} {H0 H : Hp} {σ : L2.St} (h : EnvM K M M' H0 H σ ρ) (i : Nat) : EnvM K M M' H0 H σ (ρ.set i none) := by
  refine ⟨h.le, h.hid, h.same, by rw [List.length_set, h.len], h.new, fun j y q => ?_, fun j fs q => ?_, fun j k fs gs q n q1 q2 s1 s2 => ?_⟩
  · rcases getset q with ⟨rfl, l, e⟩ | ⟨c, q⟩
    · cases e
    · exact h.dat j y q
  · rcases getset q with ⟨rfl, l, e⟩ | ⟨c, q⟩
    · cases e
    · exact h.own j fs q
  · rcases getset q1 with ⟨rfl, l, e⟩ | ⟨c, q1⟩
    · cases e
    rcases getset q2 with ⟨rfl, l, e⟩ | ⟨c2, q2⟩
    · cases e
    exact h.dif j k fs gs q n q1 q2 s1 s2
theorem puo_forget (i : Nat) (h : PuO K t ρ (.nx ρ')) : PuO K t ρ (.nx (ρ'.set i none)) := fun M H0 H σ en D q => h M H0 H σ en D fun σ' H' ⟨N, e⟩ => q σ' H' ⟨N, e.forget i⟩
theorem puo_retO {i : Nat} (hi : ρ[i]? = some (some (.o ds))) : PuO K (tRet (tVar i)) ρ (.ro ds) := fun M H0 H σ ⟨M', en⟩ D q => by
  obtain ⟨p, ws, a, b, c1, c2, c3, c4⟩ := en.own i ds hi
  refine ⟨_, a, q p ws H en.same c3 c2 b (dpAll_same (vis_le fun b z => ?_) _ _ c4)⟩
  rcases (Bool.or_eq_true _ _).mp z with z | z
  · exact en.le b z
  · rw [eq_of_beq z]; exact c1
theorem puo_if {b : Bool} (h : PuT K tt (seen ρ) b) (k : b = true → PuO K t ρ o) (k' : b = false → PuO K u ρ o) : PuO K (tIfS tt t u) ρ o := fun M H0 H σ ⟨M', en⟩ D q => h M σ H en.hidM en.seen _ fun H1 e1 => by
  cases b with
  | true => exact iteT (k rfl M H0 H1 σ ⟨M', en.next e1⟩ D q)
  | false => exact iteF (k' rfl M H0 H1 σ ⟨M', en.next e1⟩ D q)
theorem puo_ifr {b : Bool} (h : PuT K tt (seen ρ) b) (k : b = true → ∃ e, o = .rt e ∧ PuO K t ρ (.rt e)) (k' : b = false → PuO K u ρ o) : PuO K (tSeq (tIfS tt t tNext) u) ρ o := by
  cases b with
  | true =>
    obtain ⟨e, rfl, h2⟩ := k rfl
    exact puo_early (puo_if h (fun _ => h2) (fun z => nomatch z)) (fun _ z => nomatch z)
  | false => exact puo_seq (puo_if h (fun z => nomatch z) (fun _ => puo_next)) (k' rfl)
theorem puo_set {i : Nat} (h : PuE K te (hidn ρ) d) (k : PuO K u (ρ.set i (some (.d d))) o) : PuO K (tSeq (tAsg te (gName i)) u) ρ o := puo_seq (ρ' := ρ.set i (some (.d d))) (fun M H0 H σ ⟨M', en⟩ D q => h M' σ H en.hid en.hidn _ fun v H1 e1 hv => q _ H1 ⟨M', (en.next e1).put hv i⟩) k
def flatD : PyData → Bool
  | .none => true
  | .bool _ => true
  | .int _ => true
  | .str _ => true
  | _ => false
theorem dp_flat {H H' : Hp} {v : V} {d : PyData} (f : flatD d = true) (h : Dp K H v d) : Dp K H' v d := by
  cases h with
  | non => exact .non
  | bl b => exact .bl b
  | int i => exact .int i
  | str x => exact .str x
  | lst _ _ => cases f
  | tup _ _ => cases f
/-- .. a flat thing, reckoned of own lists too -/
theorem puo_setF {i : Nat} (f : flatD d = true) (h : PuE K te (seen ρ) d) (k : PuO K u (ρ.set i (some (.d d))) o) : PuO K (tSeq (tAsg te (gName i)) u) ρ o := puo_seq (ρ' := ρ.set i (some (.d d))) (fun M H0 H σ ⟨M', en⟩ D q => h M σ H en.hidM en.seen _ fun v H1 e1 hv => q _ H1 ⟨M', (en.next e1).put (dp_flat f hv) i⟩) k
theorem puo_new {i : Nat} (h : PuA K tA (hidn ρ) ds) (hl : ds.length ≤ 100000) (k : PuO K u (ρ.set i (some (.o ds))) o) : PuO K (tSeq (tAsg (tLst tA) (gName i)) u) ρ o := puo_seq (ρ' := ρ.set i (some (.o ds))) (fun M H0 H σ ⟨M', en⟩ D q => h M' σ H en.hid en.hidn _ fun vs H1 e1 hvs =>
  ⟨sl1000 (by rw [dpAll_len hvs]; exact hl), fun p np => q _ _ ((en.next e1).lay np hvs i)⟩) k
theorem puo_asg (h : PuE K te (hidn ρ) d) (hg : PgO K g ρ d ρ') (k : PuO K u ρ' o) : PuO K (tSeq (tAsg te g) u) ρ o := puo_seq (ρ' := ρ') (fun M H0 H σ ⟨M', en⟩ D q => h M' σ H en.hid en.hidn _ fun v H1 e1 hv => hg M M' H0 H1 σ v (en.next e1) hv _ fun σ' en' => q _ H1 ⟨M', en'⟩) k
theorem puo_append {i : Nat} (hi : ρ[i]? = some (some (.o ds))) (hl : ds.length < 100000) (h : PuE K te (hidn ρ) d) : PuO K (tDrop (tBM K "list" rAppend (tVar i) (tCons te tNil))) ρ (.nx (ρ.set i (some (.o (ds ++ [d]))))) := fun M H0 H σ ⟨M', en⟩ D q => by
  obtain ⟨p, ws, a, b, c1, c2, c3, c4⟩ := en.own i ds hi
  refine ⟨_, a, .inl ⟨rfl, _, SqL.of b⟩, h M' σ H en.hid en.hidn _ fun v H1 e1 hv => ?_⟩
  have en1 := en.next e1
  refine ⟨p, ws, v, rfl, rfl, e1 _ _ b, sl1001 (by rw [dpAll_len c4]; exact hl), q σ _ ⟨M', en1.write hi a ?_⟩⟩
  exact dpAll_app (dpAll_same (vis_same e1) _ _ c4) (.cons hv .nil)
theorem puo_freeze {i : Nat} (hi : ρ[i]? = some (some (.o ds))) (k : PuO K u (ρ.set i (some (.d (.list ds)))) o) : PuO K u ρ o := fun M H0 H σ ⟨M', en⟩ D q => k M H0 H σ (en.freeze hi) D q
/-! targets -/
theorem pgo_name (j : Nat) : PgO K (gName j) ρ d (ρ.set j (some (.d d))) := fun M M' H0 H σ v en hd R r => r _ (en.put hd j)
theorem pgo_two (j k : Nat) : PgO K (gTup K 2 (gCons (gName j) (gCons (gName k) gNil))) ρ (.tuple [d, e]) ((ρ.set j (some (.d d))).set k (some (.d e))) := fun M M' H0 H σ v en hd R r => by
  obtain ⟨a, xs, rfl, hs, ha⟩ := dp_tupI hd
  cases ha with
  | cons h1 ha =>
    cases ha with
    | cons h2 ha =>
      cases ha
      exact ⟨a, _, rfl, sqT_same vis_sub hs, rfl, _, _, rfl, _, _, rfl, rfl, r _ ((en.put h1 j).put h2 k)⟩
theorem pgo_three {f : PyData} (j k l : Nat) : PgO K (gTup K 3 (gCons (gName j) (gCons (gName k) (gCons (gName l) gNil)))) ρ (.tuple [d, e, f]) (((ρ.set j (some (.d d))).set k (some (.d e))).set l (some (.d f))) := fun M M' H0 H σ v en hd R r => by
  obtain ⟨a, xs, rfl, hs, ha⟩ := dp_tupI hd
  cases ha with
  | cons h1 ha =>
    cases ha with
    | cons h2 ha =>
      cases ha with
      | cons h3 ha =>
        cases ha
        exact ⟨a, _, rfl, sqT_same vis_sub hs, rfl, _, _, rfl, _, _, rfl, _, _, rfl, rfl, r _ (((en.put h1 j).put h2 k).put h3 l)⟩
/-! loops -/
/-- what a turn gives: on to the next, or out of the def -/
theorem puo_for {α : Type} {xs : List α} {td : α → PyData} {tb : TS} {k : Nat} (F : Nat → RhoO) (hi : PuI K wi (hidn ρ) (xs.map td)) (h0 : ρ = F 0) (hk : k ≤ xs.length)
    (hb : ∀ i x, i < k → xs[i]? = some x → ∃ ρ1, PgO K g (F i) (td x) ρ1 ∧ (PuO K tb ρ1 (.nx (F (i + 1))) ∨ PuO K tb ρ1 (.ct (F (i + 1)))))
    (hr : (k = xs.length ∧ o = .nx (F k)) ∨ (∃ x r, xs[k]? = some x ∧ o = .rt r ∧ ∃ ρ1, PgO K g (F k) (td x) ρ1 ∧ PuO K tb ρ1 (.rt r)) ∨ (∃ x ρ2, xs[k]? = some x ∧ o = .nx ρ2 ∧ ∃ ρ1, PgO K g (F k) (td x) ρ1 ∧ PuO K tb ρ1 (.bk ρ2))) : PuO K (tFor wi g tb) ρ o := fun M H0 H σ ⟨M', en⟩ D q => by
  subst h0
  refine hi M' σ H en.hid en.hidn _ fun J H1 e1 it => ?_
  have en1 := en.next e1
  obtain ⟨Hb, enb, s0, sb⟩ := en1.base
  have back : ∀ b, Hb b = none → H0 b = none := fun b n => by
    cases c : H0 b with
    | none => rfl
    | some u => rw [s0 _ _ c] at n; cases n
  have out : ∀ {σ' : L2.St} {Hn : Hp} {ρ' : RhoO}, EnvO K M Hb Hn σ' ρ' → EnvO K M H0 Hn σ' ρ' := fun {σ' Hn ρ'} ⟨N, e⟩ => by
    refine ⟨N, e.le, e.hid, s0.trans e.same, e.len, fun b z => (e.new b z).imp id (back b), e.dat, fun i ds z => ?_, e.dif⟩
    obtain ⟨p, vs, a1, a2, a3, a4, a5, a6⟩ := e.own i ds z
    exact ⟨p, vs, a1, a2, a3, a4, back p a5, a6⟩
  have sg : ∀ {N : Addr → Bool} {Hn : Hp} {σ' : L2.St} {ρ' : RhoO}, EnvM K M N Hb Hn σ' ρ' → Same (vis M' H1) (vis N Hn) := fun {N Hn σ' ρ'} e b u z => by
    have zb := sb b u z
    have zn := e.same _ _ zb
    have nN : N b = false := by
      cases c : N b with
      | false => rfl
      | true =>
        rcases e.new b c with n | n
        · unfold vis at z
          rw [enb.le b n, if_pos rfl] at z
          cases z
        · rw [zb] at n; cases n
    unfold vis
    rw [nN, if_neg Bool.false_ne_true]
    exact zn
  refine ⟨fun i m σ' Hn => m = xs.length - i ∧ i ≤ k ∧ EnvO K M Hb Hn σ' (F i), ⟨_, rfl, Nat.zero_le _, M', enb⟩, ?_⟩
  rintro i m σ' Hn ⟨rfl, ile, N, en'⟩
  have sgn := sg en'
  by_cases c : i < xs.length
  · have hx : xs[i]? = some xs[i] := List.getElem?_eq_getElem c
    by_cases ik : i < k
    · refine .inr ⟨it.go i Hn (sgn.trans vis_sub) (by rw [List.length_map]; exact c), fun σ'' H' => i + 1 ≤ k ∧ EnvO K M Hb H' σ'' (F (i + 1)), fun σ'' H' nx => ⟨_, by omega, rfl, nx⟩, fun x Hy y => ?_⟩
      obtain ⟨sy, dy⟩ := it.yl i Hn x Hy (td xs[i]) (sgn.trans vis_sub) (by rw [List.getElem?_map, hx]; rfl) y
      have hdx := dy N en'.hid sgn
      obtain ⟨ρ1, hg, ht⟩ := hb i xs[i] ik hx
      refine hg M N Hb Hy σ' x (en'.next sy) hdx _ fun σ2 en2 => ?_
      rcases ht with ht | ht
      · exact ht M Hb Hy σ2 ⟨N, en2⟩ _ fun σ3 H3 en3 => ⟨ik, en3⟩
      · exact ht M Hb Hy σ2 ⟨N, en2⟩ _ fun σ3 H3 en3 => ⟨ik, en3⟩
    · have e : i = k := by omega
      subst e
      rcases hr with ⟨z, _⟩ | ⟨x, r, hxk, rfl, ρ1, hg, ht⟩ | ⟨x, ρ2, hxk, rfl, ρ1, hg, ht⟩
      · omega
      · rw [hx] at hxk
        cases hxk
        refine .inr ⟨it.go i Hn (sgn.trans vis_sub) (by rw [List.length_map]; exact c), fun σ'' H' => False, (fun σ'' H' nx => nx.elim), fun x Hy y => ?_⟩
        obtain ⟨sy, dy⟩ := it.yl i Hn x Hy (td xs[i]) (sgn.trans vis_sub) (by rw [List.getElem?_map, hx]; rfl) y
        have hdx := dy N en'.hid sgn
        refine hg M N Hb Hy σ' x (en'.next sy) hdx _ fun σ2 en2 => ?_
        exact ht M Hb Hy σ2 ⟨N, en2⟩ _ fun v H3 e3 hv => q v H3 (s0.trans e3) hv
      · rw [hx] at hxk
        cases hxk
        refine .inr ⟨it.go i Hn (sgn.trans vis_sub) (by rw [List.length_map]; exact c), fun σ'' H' => False, (fun σ'' H' nx => nx.elim), fun x Hy y => ?_⟩
        obtain ⟨sy, dy⟩ := it.yl i Hn x Hy (td xs[i]) (sgn.trans vis_sub) (by rw [List.getElem?_map, hx]; rfl) y
        have hdx := dy N en'.hid sgn
        refine hg M N Hb Hy σ' x (en'.next sy) hdx _ fun σ2 en2 => ?_
        exact ht M Hb Hy σ2 ⟨N, en2⟩ _ fun σ3 H3 en3 => q σ3 H3 (out en3)
  · have e : i = xs.length := by omega
    rcases hr with ⟨z, rfl⟩ | ⟨x, r, hxk, _⟩ | ⟨x, r, hxk, _⟩
    · have e2 : i = k := by omega
      subst e2
      exact .inl ⟨it.st _ Hn (sgn.trans vis_sub) (by rw [List.length_map]; omega), q σ' Hn (out ⟨N, en'⟩)⟩
    · have := (List.getElem?_eq_some_iff.mp hxk).1
      omega
    · have := (List.getElem?_eq_some_iff.mp hxk).1
      omega
end
/-- a def that hands back a list of its own making -/
def spOwn (K : PySem.W.Frag) (m : Nat) (g : List PyData → List PyData → Prop) : Sp := fun vs H Q _ => ∃ M ds es, Hid M H ∧ vs.length = m ∧ DpAll K (vis M H) vs ds ∧ g ds es ∧ ∀ p xs H', Same H H' → H p = none → H' p = some (.lst xs) → DpAll K (vis (fun b => M b || b == p) H') xs es → Q (.ref p) H'
section
variable {K : PySem.W.Frag} {ρ : Rho} {tA : TA} {ds es : List PyData}
theorem pu_callO {m : Nat} {g : List PyData → List PyData → Prop} (h : PuA K tA ρ ds) (hm : ds.length = m := by rfl) (hg : g ds es) : PuE K (tCall (spOwn K m g) [] E0 tA) ρ (.list es) := fun M σ H hid en Q q =>
  h M σ H hid en _ fun vs H1 e1 hvs => ⟨M, ds, es, hid.same e1, by rw [List.append_nil, dpAll_len hvs, hm], by rw [List.append_nil]; exact hvs, hg, fun p xs H' e2 np hp ha => by
    refine q (.ref p) H' (e1.trans e2) (.lst (SqL.of ?_) (dpAll_same vis_or_same _ _ ha))
    unfold vis
    rw [(hid.same e1).non np, if_neg Bool.false_ne_true]
    exact hp⟩
end
theorem puo_setO {K : PySem.W.Frag} {ρ : RhoO} {tA : TA} {u : TS} {o : OutO} {ds es : List PyData} {i m : Nat} {g : List PyData → List PyData → Prop} (h : PuA K tA (hidn ρ) ds) (hm : ds.length = m := by rfl) (hg : g ds es) (k : PuO K u (ρ.set i (some (.o es))) o) : PuO K (tSeq (tAsg (tCall (spOwn K m g) [] E0 tA) (gName i)) u) ρ o :=
  puo_seq (ρ' := ρ.set i (some (.o es))) (fun M H0 H σ ⟨M', en⟩ D q => h M' σ H en.hid en.hidn _ fun vs H1 e1 hvs => ⟨M', ds, es, en.hid.same e1, by rw [List.append_nil, dpAll_len hvs, hm], by rw [List.append_nil]; exact hvs, hg, fun p xs H' e2 np hp ha => by
    have en1 := en.next e1
    have n0 : H0 p = none := by
      cases e : H0 p with
      | none => rfl
      | some u => rw [en1.same _ _ e] at np; cases np
    have nM' : M' p = false := en1.hid.non np
    have nM : M p = false := by
      cases e : M p with
      | false => rfl
      | true => rw [en1.le p e] at nM'; cases nM'
    have sv : Same (vis M' H1) (vis (fun b => M' b || b == p) H') := same_vis_or np e2
    refine q _ H' ⟨fun b => M' b || b == p, fun b z => by rw [en1.le b z]; rfl, hid_or (en1.hid.same e2) hp, en1.same.trans e2, by rw [List.length_set, List.length_set, en1.len], fun b z => ?_, fun j y q => ?_, fun j es q => ?_, fun j k es fs q n q1 q2 s1 s2 => ?_⟩
    · rcases (Bool.or_eq_true _ _).mp z with z | z
      · exact en1.new b z
      · rw [eq_of_beq z]; exact .inr n0
    · rcases getset q with ⟨rfl, l, e⟩ | ⟨c, q⟩
      · cases e
      · obtain ⟨u, a, b⟩ := en1.dat j y q
        exact ⟨u, by rw [List.getElem?_set_ne c]; exact a, dp_same sv _ _ b⟩
    · rcases getset q with ⟨rfl, l, e⟩ | ⟨c, q⟩
      · cases e
        exact ⟨p, xs, List.getElem?_set_self (by rw [en1.len]; exact l), hp, by simp, nM, n0, ha⟩
      · obtain ⟨r, ws, a, b, c1, c2, c3, c4⟩ := en1.own j es q
        exact ⟨r, ws, by rw [List.getElem?_set_ne c]; exact a, e2 _ _ b, by rw [c1]; rfl, c2, c3, dpAll_same sv _ _ c4⟩
    · have fresh : ∀ (j : Nat) (es : List PyData), ρ[j]? = some (some (.o es)) → σ[j]? = some (some (.ref p)) → False := fun j es q s => by
        obtain ⟨r, ws, a, b, _⟩ := en1.own j es q
        rw [s] at a
        cases a
        rw [np] at b
        cases b
      rcases getset q1 with ⟨rfl, l, e⟩ | ⟨c, q1⟩
      · rw [List.getElem?_set_self (by rw [en1.len]; exact l)] at s1
        cases s1
        rcases getset q2 with ⟨z, _⟩ | ⟨c2, q2⟩
        · exact n z
        · rw [List.getElem?_set_ne c2] at s2
          exact fresh k fs q2 s2
      · rw [List.getElem?_set_ne c] at s1
        rcases getset q2 with ⟨rfl, l, e⟩ | ⟨c2, q2⟩
        · rw [List.getElem?_set_self (by rw [en1.len]; exact l)] at s2
          cases s2
          exact fresh j es q1 s1
        · rw [List.getElem?_set_ne c2] at s2
          exact en1.dif j k es fs q n q1 q2 s1 s2⟩) k
/-! ### defs -/
/-- the slots at a def's entry -/
def startD (N : List Str) (ds : List PyData) : Rho := ds.map some ++ List.replicate (N.length - ds.length) none
def startE (N : List Str) (ds : List PyData) : RhoO := (ds.map fun d => some (.d d)) ++ List.replicate (N.length - ds.length) none
theorem envD_app {K : PySem.W.Frag} {H : Hp} : ∀ {vs : List V} {ds : List PyData} (n : Nat), DpAll K H vs ds → EnvD K H (vs.map some ++ List.replicate n none) (ds.map some ++ List.replicate n none)
  | [], [], 0, _ => EnvD.nil
  | [], [], n + 1, _ => (envD_app n .nil).non none
  | _, _, n, .cons h1 h2 => (envD_app n h2).cons h1
theorem envD_start {K : PySem.W.Frag} {H : Hp} {N : List Str} {vs : List V} {ds : List PyData} (h : DpAll K H vs ds) : EnvD K H (L2.start N vs) (startD N ds) := by
  unfold L2.start startD
  rw [dpAll_len h]
  exact envD_app _ h
theorem envO_start {K : PySem.W.Frag} {M : Addr → Bool} {H : Hp} {N : List Str} {vs : List V} {ds : List PyData} (hid : Hid M H) (h : DpAll K (vis M H) vs ds) : EnvO K M H H (L2.start N vs) (startE N ds) := by
  have e := envD_start (N := N) h
  have sd : startE N ds = (startD N ds).map (·.map Ent.d) := by
    unfold startE startD
    rw [List.map_append, List.map_map, List.map_replicate]
    rfl
  refine ⟨M, fun _ z => z, hid, Same.refl _, by rw [e.1, sd, List.length_map], fun b z => .inl z, fun i x q => ?_, fun i x q => ?_, fun i j ds es p n q1 _ _ _ => ?_⟩
  · rw [sd, List.getElem?_map] at q
    cases c : (startD N ds)[i]? with
    | none => rw [c] at q; cases q
    | some y =>
      rw [c] at q
      cases y with
      | none => cases q
      | some y => cases q; exact e.2 i _ c
  · rw [sd, List.getElem?_map] at q
    cases c : (startD N ds)[i]? with
    | none => rw [c] at q; cases q
    | some y =>
      rw [c] at q
      cases y <;> cases q
  · rw [sd, List.getElem?_map] at q1
    generalize (startD N _)[i]? = y at q1
    cases y with
    | none => cases q1
    | some y => cases y <;> cases q1
end Lm
set_option Elab.async false
set_option linter.all false
set_option maxRecDepth 100000
set_option maxHeartbeats 2000000
namespace Lm
open PySem PySem.Spec PyProof.Rows L2
/-- a def of the module that keeps a promise, callable by its name -/
def Has (P : Program) (w : World) (K : PySem.W.Frag) (mg : Str → Option Value) (base : Heap) (k : Nat) (x : Str) (ps : List Str) (sp : Sp) : Prop :=
  ∃ f fd, FnOk P w K mg base CX0 k f fd ps sp ∧ Binds K fd ps [] ∧ mg x = some (.ref f) ∧ PySem.W.keepIn K (.ref f) = true
theorem pe_callH {X : Cx} {k : Nat} {x : Str} {ps : List Str} {sp : Sp} {p pos : Pos} {e : Expr} {es : List Expr} {t : TA} (h : Has X.prog X.w X.K X.mg X.base k x ps sp) (hr : Room k X.A) (hg : Gl X x) (ha : PA X (e :: es) t) (hdb : (x == ("__debug__" : Str)) = false := by decide)
    (he : starEach (e :: es) X.env = (false, eval e X.env) :: starEach es X.env := by rfl) (hpl : (backTo pos (starEach es X.env)).any (·.1) = false := by rfl) : PE X (.Call (.Name x p) (e :: es) [] pos) (tCall sp [] E0 t) := by
  obtain ⟨f, fd, F, b, m, kp⟩ := h
  exact pe_call F hr hg m kp b .nil pass0 ha hdb he hpl
/-- how a def of the text stands behind the top -/
structure Df (K : PySem.W.Frag) (mg : Str → Option Value) (x : Str) (st : Stmt) (ps : List Str) (f : Addr) (fd : FuncData) : Prop where
  fn : Fun K x x st f fd
  bd : Binds K fd ps []
  mg_ : mg x = some (.ref f)
theorem Df.has {P : Program} {w : World} {K : PySem.W.Frag} {mg : Str → Option Value} {base : Heap} {k : Nat} {x : Str} {st : Stmt} {ps : List Str} {f : Addr} {fd : FuncData} {sp : Sp} (D : Df K mg x st ps f fd) (F : FnOk P w K mg base CX0 k f fd ps sp) : Has P w K mg base k x ps sp := ⟨f, fd, F, D.bd, D.mg_, D.fn.kp⟩
/-- the built-in names -/
structure Blt (mg : Str → Option Value) : Prop where
  isinstance : mg "isinstance" = none
  int : mg "int" = none
  bool : mg "bool" = none
  tuple : mg "tuple" = none
  str : mg "str" = none
  list : mg "list" = none
  len : mg "len" = none
  all : mg "all" = none
theorem bt_isinstance : bootBuiltins "isinstance" = some (.builtin "isinstance") := by first | exact PySem.boot_isinstance | decide +kernel
theorem bt_int : bootBuiltins "int" = some (.type "int") := by first | exact PyProof.Rows.boot_int | decide +kernel
theorem bt_bool : bootBuiltins "bool" = some (.type "bool") := by first | exact PyProof.Rows.boot_bool | decide +kernel
theorem bt_tuple : bootBuiltins "tuple" = some (.type "tuple") := by first | exact PyProof.Rows.boot_tuple | decide +kernel
theorem bt_str : bootBuiltins "str" = some (.type "str") := by first | exact PyProof.Rows.boot_str | decide +kernel
theorem bt_list : bootBuiltins "list" = some (.type "list") := by first | exact PyProof.Rows.boot_list | decide +kernel
theorem bt_all : bootBuiltins "all" = some (.builtin "all") := by first | exact PyProof.Rows.boot_all | decide +kernel
theorem bt_any : bootBuiltins "any" = some (.builtin "any") := by first | exact PyProof.Rows.boot_any | decide +kernel
theorem bt_sum : bootBuiltins "sum" = some (.builtin "sum") := by first | exact PyProof.Rows.boot_sum | decide +kernel
theorem bt_max : bootBuiltins "max" = some (.builtin "max") := by decide +kernel
theorem bt_min : bootBuiltins "min" = some (.builtin "min") := by decide +kernel
section
variable {P : Program} {w : World} {K : PySem.W.Frag} {mg : Str → Option Value} {base : Heap} {f : Addr} {fd : FuncData}
/-- a pure def by its pure reading -/
theorem ok_pu {x : Str} {st : Stmt} {N ps : List Str} {k : Nat} {g : List PyData → PyData → Prop} (D : Df K mg x st ps f fd) (S : FnScope N ps (defScope st))
    (bd : ∀ (cdv : Value) (A : Around) (outer : List Env) (s : Shared) (H : Hp) (E : XK), Room k (A.deeper (envOfC x (defScope st) s.heap.objs.size f cdv)) →
      ∃ t, PSs (cxOf CX0 P w K mg base N x (defScope st) f cdv A outer s H E).nox (defBody st) t ∧ ∀ ds d, ds.length = ps.length → g ds d → PuS K t (startD N ds) (.rt d) ∨ (d = .none ∧ ∃ ρ, PuS K t (startD N ds) (.nx ρ))) : FnOk P w K mg base CX0 (k + 1) f fd ps (spPu K ps.length g) := by
  refine D.fn.ok S (fun vs H Q E h => ?_) (fun cdv A outer s H vs Q E hr h => ?_)
  · obtain ⟨M, ds, d, _, hl, _⟩ := h
    exact hl
  obtain ⟨M, ds, d, hid, hl, hd, hg, q⟩ := h
  obtain ⟨t, ht, hp⟩ := bd cdv A outer s H E hr
  refine ⟨t, ht, ?_⟩
  have dl : ds.length = ps.length := by rw [← dpAll_len hd, hl]
  rcases hp ds d dl hg with hp | ⟨rfl, ρ, hp⟩
  · exact hp M _ H hid (envD_start hd) _ q
  · exact hp M _ H hid (envD_start hd) _ fun σ H' e _ => q _ H' e .non
theorem ok_puo {x : Str} {st : Stmt} {N ps : List Str} {k : Nat} {g : List PyData → PyData → Prop} (D : Df K mg x st ps f fd) (S : FnScope N ps (defScope st))
    (bd : ∀ (cdv : Value) (A : Around) (outer : List Env) (s : Shared) (H : Hp) (E : XK), Room k (A.deeper (envOfC x (defScope st) s.heap.objs.size f cdv)) →
      ∃ t, PSs (cxOf CX0 P w K mg base N x (defScope st) f cdv A outer s H E).nox (defBody st) t ∧ ∀ ds d, ds.length = ps.length → g ds d → PuO K t (startE N ds) (.rt d)) : FnOk P w K mg base CX0 (k + 1) f fd ps (spPu K ps.length g) := by
  refine D.fn.ok S (fun vs H Q E h => ?_) (fun cdv A outer s H vs Q E hr h => ?_)
  · obtain ⟨M, ds, d, _, hl, _⟩ := h
    exact hl
  obtain ⟨M, ds, d, hid, hl, hd, hg, q⟩ := h
  obtain ⟨t, ht, hp⟩ := bd cdv A outer s H E hr
  refine ⟨t, ht, ?_⟩
  have dl : ds.length = ps.length := by rw [← dpAll_len hd, hl]
  exact hp ds d dl hg M H H _ (envO_start hid hd) _ q
theorem ok_own {x : Str} {st : Stmt} {N ps : List Str} {k : Nat} {g : List PyData → List PyData → Prop} (D : Df K mg x st ps f fd) (S : FnScope N ps (defScope st))
    (bd : ∀ (cdv : Value) (A : Around) (outer : List Env) (s : Shared) (H : Hp) (E : XK), Room k (A.deeper (envOfC x (defScope st) s.heap.objs.size f cdv)) →
      ∃ t, PSs (cxOf CX0 P w K mg base N x (defScope st) f cdv A outer s H E).nox (defBody st) t ∧ ∀ ds es, ds.length = ps.length → g ds es → PuO K t (startE N ds) (.ro es)) : FnOk P w K mg base CX0 (k + 1) f fd ps (spOwn K ps.length g) := by
  refine D.fn.ok S (fun vs H Q E h => ?_) (fun cdv A outer s H vs Q E hr h => ?_)
  · obtain ⟨M, ds, d, _, hl, _⟩ := h
    exact hl
  obtain ⟨M, ds, es, hid, hl, hd, hg, q⟩ := h
  obtain ⟨t, ht, hp⟩ := bd cdv A outer s H E hr
  refine ⟨t, ht, ?_⟩
  have dl : ds.length = ps.length := by rw [← dpAll_len hd, hl]
  exact hp ds es dl hg M H H _ (envO_start hid hd) _ fun p xs H' e n _ hp ha => q p xs H' e n hp ha
end
end Lm
set_option Elab.async false
set_option linter.all false
set_option maxRecDepth 100000
set_option maxHeartbeats 2000000
/-! any(list) within an except suite; a lambda called in a try whose error's context is known -/
namespace Lm
open PySem PySem.Spec PyProof.Rows L2
section
variable {prog : Program} {w : World} {A : Around} {E : Value → Shared → Prop} {s : Shared}
/-- a list's iterator comes to its end while an exception is handled -/
theorem list_over_hot {it l xh : Addr} {i : Nat} {ws : Array Value} {Q : Option Value → Shared → Prop} (hot : HotX.HotAt A xh s.heap) (st : s.heap.IsListIter it l i) (sl : s.heap.IsList l ws) (gone : ws[i]? = none) (ne : xh ≠ it)
    (q : ∀ h', Heap.ExtBut it s.heap h' → Q none { s with heap := h' }) : wpAny (model prog w) A (pyNext (.ref it)) Q E s := by
  obtain ⟨oi, gi, ci, di⟩ := id st
  obtain ⟨ol, gl, _, nl, dl⟩ := sl
  obtain ⟨hh, ox, fx, gx, dx, cx⟩ := hot
  have look : ((it : Addr) ≠ xh) := fun z => ne z.symm
  unfold pyNext
  apply wpAny_bind
  apply wpAny_attempt
  refine wpAny_callSpecial?_slot (name := Str.ofString "__next__") st.typeIs slot_listiter_next ?_
  refine wpAny_call_entry slot_listiter_next st.typeIs entry_listiter_next ?_ (args_listiter_next _)
  show wpAny _ _ (field (.ref it) 0 >>= _) _ _ s
  apply wpAny_bind
  refine wpAny_field gi di (x := .ref l) rfl ?_
  show wpAny _ _ (if (Value.ref l == Value.none) = true then _ else _) _ _ s
  rw [if_neg (fun z : (Value.ref l == Value.none) = true => Bool.false_ne_true z)]
  show wpAny _ _ (field (.ref it) 1 >>= _) _ _ s
  apply wpAny_bind
  refine wpAny_field gi di (x := .int i 0) rfl ?_
  show wpAny _ _ (seqItems? (.ref l) >>= _) _ _ s
  apply wpAny_bind
  refine wpAny_seqItems gl dl ?_
  simp only [Int.toNat_natCast, gone]
  apply wpAny_bind
  apply wpAny_rule
  apply wpAny_bind
  refine wpAny_setField gi di (by simp) ?_
  show wpAny _ _ (newExc (.type "StopIteration") [] >>= _) _ _ _
  apply wpAny_bind
  simp only [newExc, newTuple]
  apply wpAny_bind
  refine wpAny_newObj_type ?_ (by size_fits)
  refine wpAny_bind (m := firstArgMember _ _) ?_
  refine wpAny_of_eq (a := Value.none) (by first | rfl | (simp only [firstArgMember]; rfl)) ?_
  refine wpAny_newObj_type ?_ (by size_fits)
  have kept : ∀ {h0 : Heap}, h0.get? xh = some ox → ∀ o1 o2, ((h0.push o1).push o2).get? xh = some ox := fun g o1 o2 => Heap.get?_push_of_some _ (Heap.get?_push_of_some _ g)
  have gx1 : (s.heap.update it (Obj.mapFields (·.setIfInBounds 0 Value.none))).get? xh = some ox := (Heap.get?_update_other _ _ look).trans gx
  refine HotX.raiseNew_hot (x1 := xh) ⟨hh, ox, fx, kept gx1 _ _, dx, cx⟩ ?_ (Heap.get?_push_size _ rfl) rfl (by first | (simp; done) | (simp; omega)) ?_
  · exact Nat.ne_of_lt (Heap.lt_size (Heap.get?_push_of_some _ gx1))
  apply wpAny_bind
  refine wpAny_isInstance (T := "StopIteration") (b := true) ⟨_, Heap.get?_update_self _ (Heap.get?_push_size _ rfl) rfl, rfl⟩ isSubtype_stop ?_
  refine wpAny_pure (q _ fun b o hb e => ?_)
  have e1 : (s.heap.update it (Obj.mapFields (·.setIfInBounds 0 Value.none))).get? b = some o := (Heap.get?_update_other _ _ (Ne.symm hb)).trans e
  have e2 := Heap.get?_push_of_some (h := s.heap.update it (Obj.mapFields (·.setIfInBounds 0 Value.none))) { cls := .type "tuple", data := .seq (#[] : Array Value) } e1
  first
    | exact (Heap.get?_update_other _ _ (Nat.ne_of_gt (Heap.lt_size e2))).trans (Heap.get?_push_of_some _ e2)
    | (rw [Heap.get?_update_other _ _ (Nat.ne_of_gt (Heap.lt_size (Heap.get?_push_of_some _ e1)))]; exact Heap.get?_push_of_some _ (Heap.get?_push_of_some _ e1))
theorem walks_hot {xh : Addr} (hh : A.handled = some (.ref xh)) (it l : Addr) (n1 : l ≠ it) (n2 : xh ≠ it) (ws : Array Value) :
    Walks prog w A it [it, l, xh] [it] ws.size (fun i v => ws[i]? = some v)
      (fun i h => (h.IsListIter it l i ∧ h.IsList l ws) ∧ ∃ (o : Obj) (fs : Array Value), h.get? xh = some o ∧ o.data = .fields fs ∧ fs[2]? = some .none) where
  sub := fun b hb => by
    rw [List.mem_singleton.mp hb]
    exact List.mem_cons_self
  frame := fun i h h' st k => by
    obtain ⟨⟨a, b⟩, o, fs, c, d⟩ := st
    exact ⟨⟨a.at fun u e => k it (by simp) u e, b.at fun u e => k l (by simp) u e⟩, o, fs, k xh (by simp) o c, d⟩
  item := fun i s Q E hi st q => by
    obtain ⟨⟨a, b⟩, o, fs, c, d⟩ := st
    have hv : ws[i]? = some ws[i] := by simp [hi]
    refine wpAny_pyNext_list_item a b hv fun h' a' sb => q _ h' s.toks hv ⟨⟨a', b.extBut sb.extBut n1⟩, o, fs, (sb.2 xh n2).trans c, d⟩ fun y u hy e => ?_
    exact sb.extBut y u (fun z => hy (List.mem_singleton.mpr z)) e
  done := fun s Q E st q => by
    obtain ⟨⟨a, b⟩, o, fs, c, d⟩ := st
    exact list_over_hot ⟨hh, o, fs, c, d⟩ a b (by simp) n2 fun h' x => q h' s.toks fun y u hy e => x y u (fun z => hy (List.mem_singleton.mpr z)) e
  self := fun i s Q E st q => wpAny_pyIter_listiter st.1.1 q
end
/-- any(xs), xs bools, within the suite of an except -/
theorem any_hot {X : Cx} (c : L2H.HotC X) : CallR X (.builtin "any") (rAny X.K) := by
  intro pins s σ H vs us Q I r h
  obtain ⟨a, bs, rfl, ha, q⟩ := h
  obtain ⟨its, rv, pl, _⟩ := I.list ha
  obtain ⟨p, ⟨hh, fs, e1, e2⟩, hp⟩ := c
  have gp : s.heap.get? p.1 = some p.2 := (I.pin p (List.mem_append_left _ hp)).1
  have np : p.1 ≠ s.heap.objs.size := Nat.ne_of_lt (Heap.lt_size gp)
  rw [Vals.ref1 r]
  have hb := rv.bls
  refine call_any_walk (iter_any pl.isList fun s₂ e st ne => ?_)
  subst e
  refine ⟨_, _, _, _, _, _, _, rfl, walks_hot (A := X.A.in1) hh _ a ne np its.toArray, ⟨st, p.2, fs, Heap.get?_push_of_some _ gp, e1, e2⟩, truth_bools hb, fun h' tk k => ?_⟩
  refine ⟨.bl _, H, I.kept fun b o e => k b o (fun z => ?_) (Heap.get?_push_of_some _ e), ?_, q⟩
  · have z' : b = s.heap.objs.size := List.mem_singleton.mp z
    rw [z'] at e
    exact Nat.lt_irrefl _ (Heap.lt_size e)
  · show Value.bool _ = Value.bool _
    rw [← L2.any_range, hb, List.size_toArray, List.length_map]
end Lm
set_option Elab.async false
set_option linter.all false
set_option maxRecDepth 100000
set_option maxHeartbeats 400000
namespace Lm
open PySem PySem.Spec PyProof.Rows L2
theorem arity_of {x : Str} {k : Int} (h : arOf x = some k) : (x = ("not" : Str) ∧ k = 1) ∨ ∃ b : Bw, x = b.txt ∧ k = 2 := by
  unfold arOf at h
  split at h
  · rename_i e; cases h; exact .inl ⟨e, rfl⟩
  · split at h
    · rename_i e; cases h; exact .inr ⟨.an, e, rfl⟩
    · split at h
      · rename_i e; cases h; exact .inr ⟨.o, e, rfl⟩
      · split at h
        · rename_i e; cases h; exact .inr ⟨.th, e, rfl⟩
        · cases h
theorem isF_back : ∀ (n : Nat) (d : PyData), isF n d = true → ∃ f : Fm, d = f.toD ∧ f.good ∧ f.dep ≤ n
  | 0, d, h => by rw [isF_zero] at h; cases h
  | n + 1, d, h => by
    cases d with
    | tuple ds =>
      cases ds with
      | nil => cases h
      | cons w ds =>
        cases w with
        | str x =>
          rw [isF] at h
          split at h
          · rename_i e
            subst e
            have h : sgOf ds = true := h
            cases ds with
            | nil => cases h
            | cons y t =>
              cases t with
              | cons _ _ => cases h
              | nil =>
                cases y with
                | int i =>
                  have h : (decide (0 ≤ i) && decide (i ≤ 99)) = true := h
                  rw [Bool.and_eq_true, decide_eq_true_eq, decide_eq_true_eq] at h
                  exact ⟨.sg i, rfl, h, (by show 1 ≤ n + 1; omega)⟩
                | _ => cases h
          · split at h
            · cases h
            · rename_i k e
              rw [Bool.and_eq_true, decide_eq_true_eq] at h
              obtain ⟨hl, ha⟩ := h
              rcases arity_of e with ⟨rfl, rfl⟩ | ⟨b, rfl, rfl⟩
              · match ds, hl, ha with
                | [y], _, ha =>
                  simp only [List.map_cons, List.map_nil, List.all_cons, List.all_nil, Bool.and_true, id] at ha
                  obtain ⟨f, rfl, g1, g2⟩ := isF_back n y ha
                  exact ⟨.no f, rfl, g1, (by show f.dep + 1 ≤ n + 1; omega)⟩
                | [], hl, _ => exact absurd hl (by show ¬ ((1 : Nat) : Int) = 1 + 1; decide)
                | _ :: _ :: t, hl, _ => exact absurd hl (by rw [List.length_cons, List.length_cons]; omega)
              · match ds, hl, ha with
                | [y, z], _, ha =>
                  simp only [List.map_cons, List.map_nil, List.all_cons, List.all_nil, Bool.and_true, id, Bool.and_eq_true] at ha
                  obtain ⟨f, rfl, g1, g2⟩ := isF_back n y ha.1
                  obtain ⟨g, rfl, k1, k2⟩ := isF_back n z ha.2
                  exact ⟨.bi b f g, rfl, ⟨g1, k1⟩, (by show max f.dep g.dep + 1 ≤ n + 1; omega)⟩
                | [], hl, _ => exact absurd hl (by show ¬ ((1 : Nat) : Int) = 1 + 2; decide)
                | [_], hl, _ => exact absurd hl (by show ¬ ((2 : Nat) : Int) = 1 + 2; decide)
                | _ :: _ :: _ :: t, hl, _ => exact absurd hl (by rw [List.length_cons, List.length_cons, List.length_cons]; omega)
        | _ => cases h
    | _ => cases h
/-! ### claims: the mirror of is_claim -/
mutual
def sizeD : PyData → Nat
  | .tuple ds => sizeT ds
  | _ => 0
def sizeT : List PyData → Nat
  | [] => 0
  | _ :: ds => 1 + sizeA ds
def sizeA : List PyData → Nat
  | [] => 0
  | d :: ds => sizeD d + sizeA ds
end
theorem sizeD_fm : ∀ f : Fm, sizeD f.toD = f.size
  | .sg i => by
    show 1 + (sizeD (.int i) + 0) = 1
    rfl
  | .no f => by
    show 1 + (sizeD f.toD + 0) = f.size + 1
    rw [sizeD_fm f]
    omega
  | .bi w f g => by
    show 1 + (sizeD f.toD + (sizeD g.toD + 0)) = f.size + g.size + 1
    rw [sizeD_fm f, sizeD_fm g]
    omega
/-- formulas, of so many words at most with those ahead -/
def okL : Nat → List PyData → Bool
  | _, [] => true
  | m, d :: ds => isF 12 d && (decide (m + sizeD d ≤ 60) && okL (m + sizeD d) ds)
def isC : PyData → Bool
  | .tuple [.list ds, .list es] => okL 0 (ds ++ es)
  | _ => false
def cD (L R : List Fm) : PyData := .tuple [.list (L.map Fm.toD), .list (R.map Fm.toD)]
def wordsS (fs : List Fm) : Nat := (fs.map Fm.size).sum
/-- formulas as the program takes them -/
def Gd (fs : List Fm) : Prop := ∀ f ∈ fs, f.good ∧ f.dep ≤ 12
theorem okL_back : ∀ (m : Nat) (ds : List PyData), okL m ds = true → ∃ fs : List Fm, ds = fs.map Fm.toD ∧ Gd fs ∧ (ds ≠ [] → m + wordsS fs ≤ 60)
  | m, [], _ => ⟨[], rfl, (fun _ h => nomatch h), fun h => absurd rfl h⟩
  | m, d :: ds, h => by
    rw [okL, Bool.and_eq_true, Bool.and_eq_true, decide_eq_true_eq] at h
    obtain ⟨f, rfl, g1, g2⟩ := isF_back 12 d h.1
    rw [sizeD_fm] at h
    obtain ⟨fs, rfl, gs, hw⟩ := okL_back _ ds h.2.2
    refine ⟨f :: fs, rfl, fun x hx => ?_, fun _ => ?_⟩
    · rcases List.mem_cons.mp hx with rfl | hx
      · exact ⟨g1, g2⟩
      · exact gs x hx
    · show m + (f.size + wordsS fs) ≤ 60
      by_cases e : fs = []
      · subst e
        show m + (f.size + 0) ≤ 60
        omega
      · have := hw (by simpa using e)
        omega
theorem okL_fms : ∀ (m : Nat) (fs : List Fm), Gd fs → m + wordsS fs ≤ 60 → okL m (fs.map Fm.toD) = true
  | m, [], _, _ => rfl
  | m, f :: fs, h, hw => by
    have hw : m + (f.size + wordsS fs) ≤ 60 := hw
    have hf := h f List.mem_cons_self
    show (isF 12 f.toD && (decide (m + sizeD f.toD ≤ 60) && okL (m + sizeD f.toD) (fs.map Fm.toD))) = true
    rw [sizeD_fm, isF_toD f 12 hf.1 hf.2, decide_eq_true (by omega), okL_fms _ fs (fun x hx => h x (List.mem_cons_of_mem _ hx)) (by omega)]
    rfl
theorem okL_many : ∀ (m : Nat) (fs : List Fm), ¬ m + wordsS fs ≤ 60 → m ≤ 60 → okL m (fs.map Fm.toD) = false
  | m, [], h, hm => absurd hm h
  | m, f :: fs, h, hm => by
    have h : ¬ m + (f.size + wordsS fs) ≤ 60 := h
    show (isF 12 f.toD && (decide (m + sizeD f.toD ≤ 60) && okL (m + sizeD f.toD) (fs.map Fm.toD))) = false
    rw [sizeD_fm]
    by_cases z : m + f.size ≤ 60
    · rw [okL_many (m + f.size) fs (by omega) z, Bool.and_false, Bool.and_false]
    · rw [decide_eq_false z, Bool.false_and, Bool.and_false]
theorem isC_back {d : PyData} (h : isC d = true) : ∃ L R : List Fm, d = cD L R ∧ Gd L ∧ Gd R ∧ wordsS L + wordsS R ≤ 60 := by
  unfold isC at h
  split at h
  · rename_i ds es
    obtain ⟨fs, e, g, hw⟩ := okL_back 0 _ h
    obtain ⟨L, R, e1, e2, e3⟩ := List.append_eq_map_iff.mp e
    subst e1
    refine ⟨L, R, by rw [← e2, ← e3]; rfl, fun f hf => g f (List.mem_append_left _ hf), fun f hf => g f (List.mem_append_right _ hf), ?_⟩
    by_cases z : ds ++ es = []
    · rw [z] at e
      have : L ++ R = [] := List.map_eq_nil_iff.mp e.symm
      rw [List.append_eq_nil_iff] at this
      rw [this.1, this.2]
      decide
    · have := hw z
      unfold wordsS at this ⊢
      rw [List.map_append, List.sum_append] at this
      omega
  · cases h
theorem isC_cD {L R : List Fm} (gl : Gd L) (gr : Gd R) : isC (cD L R) = decide (wordsS L + wordsS R ≤ 60) := by
  have e : wordsS (L ++ R) = wordsS L + wordsS R := by unfold wordsS; rw [List.map_append, List.sum_append]
  have g : Gd (L ++ R) := fun f hf => (List.mem_append.mp hf).elim (gl f) (gr f)
  show okL 0 (L.map Fm.toD ++ R.map Fm.toD) = _
  rw [← List.map_append]
  by_cases z : wordsS L + wordsS R ≤ 60
  · rw [decide_eq_true z]
    exact okL_fms 0 _ g (by omega)
  · rw [decide_eq_false z]
    exact okL_many 0 _ (by omega) (by decide)
theorem isC_len {ds : List PyData} (h : ¬ ds.length = 2) : isC (.tuple ds) = false := by
  unfold isC
  split
  · rename_i e
    injection e with e
    rw [e] at h
    exact absurd rfl h
  · rfl
theorem words_len (fs : List Fm) : fs.length ≤ wordsS fs := by
  induction fs with
  | nil => exact Nat.zero_le _
  | cons f fs ih =>
    show fs.length + 1 ≤ f.size + wordsS fs
    have : 1 ≤ f.size := by cases f <;> first | exact Nat.le_refl 1 | exact Nat.le_add_left 1 _
    omega
/-- of no more than a thousand on its sides, where it is a tuple of two lists -/
def short : PyData → Prop
  | .tuple [.list ds, .list es] => ds.length + es.length ≤ 1000
  | _ => True
/-- the same formulas stand in both -/
def SameF (L R : List Fm) : Prop := ∀ f, f ∈ L ↔ f ∈ R
end Lm
set_option Elab.async false
set_option linter.all false
set_option maxRecDepth 100000
set_option maxHeartbeats 2000000
namespace Lm
open PySem PySem.Spec PyProof.Rows L2
/-- what is known of an error's class -/
structure ErrK (K : PySem.W.Frag) (C : Addr) : Prop where
  ex : ExcC K C
  new : PySem.W.excIn K C [.type "ValueError", .type "Exception", .type "BaseException", .type "object"] "ValueError.__new__" = true
  kp : PySem.W.keepIn K (.ref C) = true
  ty : PySem.W.typeIn K (.ref C) = some (.type "type")
section
variable {P : Program} {w : World} {K : PySem.W.Frag} {mg : Str → Option Value} {base : Heap} {f : Addr} {fd : FuncData}
theorem fun_okN {x qual : Str} {st : Stmt} {N ps : List Str} {k : Nat} {sp : Sp} (F : Fun K x qual st f fd) (S : FnScope N ps (defScope st)) (len : ∀ vs H Q E, sp vs H Q E → vs.length = ps.length)
    (bd : ∀ (cv : Value) (A : Around) (outer : List Env) (s : Shared) (H : Hp) (vs : List V) (Q : VK) (E : XK), Room k (A.deeper (envOfC qual (defScope st) s.heap.objs.size f cv)) → sp vs H Q E →
      ∃ t, PSs (cxOf (L2N.CX P w) P w K mg base N qual (defScope st) f cv A outer s H E) (defBody st) t ∧ t { nx := fun _ H' => Q .non H', rt := Q } (L2.start N vs) H) : FnOk P w K mg base (L2N.CX P w) (k + 1) f fd ps sp := by
  obtain ⟨oc, od, kV, doc, pm, an, cv, ct, osl, rfl, lk, hcd⟩ := F.ex
  exact fn_of lk hcd S len fun A outer s H vs Q E hr h => bd cv A outer s H vs Q E hr h
/-- callable by its name; what it raises has no context -/
def HasN (P : Program) (w : World) (K : PySem.W.Frag) (mg : Str → Option Value) (base : Heap) (k : Nat) (x : Str) (ps : List Str) (sp : Sp) : Prop :=
  ∃ f fd, FnOk P w K mg base (L2N.CX P w) k f fd ps sp ∧ Binds K fd ps [] ∧ mg x = some (.ref f) ∧ PySem.W.keepIn K (.ref f) = true
theorem Df.hasN {k : Nat} {x : Str} {st : Stmt} {ps : List Str} {sp : Sp} (D : Df K mg x st ps f fd) (F : FnOk P w K mg base (L2N.CX P w) k f fd ps sp) : HasN P w K mg base k x ps sp := ⟨f, fd, F, D.bd, D.mg_, D.fn.kp⟩
/-- where it raises nothing -/
theorem HasN.calm {k : Nat} {x : Str} {ps : List Str} {sp sp0 : Sp} (h : HasN P w K mg base k x ps sp) (i : ∀ vs H Q E, sp0 vs H Q E → sp vs H Q E0) : Has P w K mg base k x ps sp0 := by
  obtain ⟨f, fd, F, b, m, kp⟩ := h
  refine ⟨f, fd, ⟨fun vs H Q E q => F.len vs H Q E0 (i _ _ _ _ q), fun A outer s H args us vs Q E hr e0 hb hv hs => codeAny_mono (F.run A outer s H args us vs Q E0 hr e0 hb hv (i _ _ _ _ hs)) fun r s' z => ?_⟩, b, m, kp⟩
  cases r with
  | error e =>
    obtain ⟨_, _, _, _, _, _, _, _, _, _, _, _, no⟩ := (show L2N.CX P w outer H s E0 e s' from z)
    exact no.elim
  | ok fl =>
    cases fl with
    | ret u => exact z
    | next => exact z
    | brk => exact z
    | cont => exact z
theorem pe_callN {X : Cx} {k : Nat} {x : Str} {ps : List Str} {sp : Sp} {W : WX} {E : XK} {p pos : Pos} {e : Expr} {es : List Expr} {t : TA} (h : HasN X.prog X.w X.K X.mg X.base k x ps sp) (tk : L2N.Takes X W) (tw : ∀ c d σ H, E c d H → W c d σ H) (hr : Room k X.A) (hg : Gl X x) (ha : PA X (e :: es) t)
    (hdb : (x == ("__debug__" : Str)) = false := by decide) (he : starEach (e :: es) X.env = (false, eval e X.env) :: starEach es X.env := by rfl) (hpl : (backTo pos (starEach es X.env)).any (·.1) = false := by rfl) : PE X (.Call (.Name x p) (e :: es) [] pos) (tCall sp [] E t) := by
  obtain ⟨f, fd, F, b, m, kp⟩ := h
  exact pe_call F hr hg m kp b .nil (L2N.passes_call tk tw) ha hdb he hpl
end
end Lm
set_option Elab.async false
set_option linter.all false
set_option maxRecDepth 100000
set_option maxHeartbeats 400000
/-! rules: mathematics -/
namespace Lm
open PySem
/-! ### each once -/
def onceA : List Fm → List Fm → List Fm
  | acc, [] => acc
  | acc, f :: fs => onceA (if f ∈ acc then acc else acc ++ [f]) fs
def once (L : List Fm) : List Fm := onceA [] L
theorem onceA_app : ∀ (acc A B : List Fm), onceA acc (A ++ B) = onceA (onceA acc A) B
  | _, [], _ => rfl
  | acc, f :: fs, B => onceA_app _ fs B
theorem mem_onceA : ∀ {acc L : List Fm} {g : Fm}, g ∈ onceA acc L ↔ g ∈ acc ∨ g ∈ L
  | acc, [], g => by simp [onceA]
  | acc, f :: fs, g => by
    rw [onceA, mem_onceA]
    split
    · rename_i h
      constructor
      · rintro (h1 | h1)
        · exact .inl h1
        · exact .inr (List.mem_cons_of_mem _ h1)
      · rintro (h1 | h1)
        · exact .inl h1
        · rcases List.mem_cons.mp h1 with rfl | h1
          · exact .inl h
          · exact .inr h1
    · simp [or_assoc]
theorem mem_once {L : List Fm} {g : Fm} : g ∈ once L ↔ g ∈ L := by unfold once; rw [mem_onceA]; simp
theorem nodup_onceA : ∀ {acc L : List Fm}, acc.Nodup → (onceA acc L).Nodup
  | acc, [], h => h
  | acc, f :: fs, h => by
    rw [onceA]
    refine nodup_onceA ?_
    split
    · exact h
    · rename_i c
      rw [List.nodup_append]
      refine ⟨h, by simp, fun a ha b hb e => ?_⟩
      rw [List.mem_singleton.mp hb] at e
      exact c (e ▸ ha)
theorem nodup_once (L : List Fm) : (once L).Nodup := nodup_onceA List.nodup_nil
theorem onceA_nodup : ∀ {acc L : List Fm}, (acc ++ L).Nodup → onceA acc L = acc ++ L
  | acc, [], _ => by simp [onceA]
  | acc, f :: fs, h => by
    have hf : ¬ f ∈ acc := fun z => by
      rw [List.nodup_append] at h
      exact h.2.2 f z f List.mem_cons_self rfl
    rw [onceA, if_neg hf, onceA_nodup (by simpa using h)]
    simp
theorem once_of_nodup {L : List Fm} (h : L.Nodup) : once L = L := by
  have := onceA_nodup (acc := []) (L := L) (by simpa using h)
  simpa [once] using this
theorem once_once (L : List Fm) : once (once L) = once L := once_of_nodup (nodup_once L)
theorem once_app (A B : List Fm) : once (once A ++ B) = once (A ++ B) := by
  unfold once
  rw [onceA_app, onceA_app]
  have := once_once A
  unfold once at this
  rw [this]
theorem onceA_filter (p : Fm → Bool) : ∀ (acc L : List Fm), onceA (acc.filter p) (L.filter p) = (onceA acc L).filter p
  | acc, [] => rfl
  | acc, f :: fs => by
    rw [onceA]
    by_cases c : p f = true
    · rw [List.filter_cons_of_pos c, onceA, ← onceA_filter p _ fs]
      congr 1
      by_cases h : f ∈ acc
      · rw [if_pos h, if_pos (List.mem_filter.mpr ⟨h, c⟩)]
      · rw [if_neg h, if_neg fun z => h (List.mem_filter.mp z).1, List.filter_append]
        simp [c]
    · rw [List.filter_cons_of_neg c, ← onceA_filter p _ fs]
      congr 1
      split
      · rfl
      · rw [List.filter_append]
        simp [c]
theorem once_filter (p : Fm → Bool) (L : List Fm) : once (L.filter p) = (once L).filter p := onceA_filter p [] L
theorem onceA_len : ∀ (acc L : List Fm), (onceA acc L).length ≤ acc.length + L.length
  | acc, [] => by simp [onceA]
  | acc, f :: fs => by
    rw [onceA]
    have := onceA_len (if f ∈ acc then acc else acc ++ [f]) fs
    have e : (if f ∈ acc then acc else acc ++ [f]).length ≤ acc.length + 1 := by
      split
      · omega
      · simp
    rw [List.length_cons]
    omega
theorem once_len (L : List Fm) : (once L).length ≤ L.length := by
  have := onceA_len [] L
  simpa [once] using this
theorem wordsS_app (A B : List Fm) : wordsS (A ++ B) = wordsS A + wordsS B := by unfold wordsS; rw [List.map_append, List.sum_append]
theorem wordsS_cons (f : Fm) (B : List Fm) : wordsS (f :: B) = f.size + wordsS B := rfl
theorem wordsS_nil : wordsS [] = 0 := rfl
theorem onceA_words : ∀ (acc L : List Fm), wordsS (onceA acc L) ≤ wordsS acc + wordsS L
  | acc, [] => by simp [onceA, wordsS_nil]
  | acc, f :: fs => by
    rw [onceA]
    have := onceA_words (if f ∈ acc then acc else acc ++ [f]) fs
    have e : wordsS (if f ∈ acc then acc else acc ++ [f]) ≤ wordsS acc + f.size := by
      split
      · omega
      · rw [wordsS_app, wordsS_cons, wordsS_nil]; omega
    rw [wordsS_cons]
    omega
theorem once_words (L : List Fm) : wordsS (once L) ≤ wordsS L := by
  have := onceA_words [] L
  rw [wordsS_nil] at this
  unfold once
  omega
theorem onceA_dup {acc L : List Fm} (h : (onceA acc L).length = acc.length + L.length) (ha : acc.Nodup) : (acc ++ L).Nodup := by
  induction L generalizing acc with
  | nil => simpa using ha
  | cons f fs ih =>
    rw [onceA] at h
    by_cases c : f ∈ acc
    · rw [if_pos c] at h
      have := onceA_len acc fs
      rw [List.length_cons] at h
      omega
    · rw [if_neg c] at h
      have h2 : (acc ++ [f]).Nodup := by
        rw [List.nodup_append]
        refine ⟨ha, by simp, fun a ha b hb e => ?_⟩
        rw [List.mem_singleton.mp hb] at e
        exact c (e ▸ ha)
      have := ih (by rw [h, List.length_append, List.length_cons, List.length_singleton]; omega) h2
      simpa using this
/-- as long as before just where nothing stood twice -/
theorem once_len_iff (L : List Fm) : (once L).length = L.length ↔ L.Nodup := by
  constructor
  · intro h
    have := onceA_dup (acc := []) (L := L) (by simpa [once] using h) List.nodup_nil
    simpa using this
  · intro h
    rw [once_of_nodup h]
theorem gd_once {L : List Fm} (h : Gd L) : Gd (once L) := fun f hf => h f (mem_once.mp hf)
theorem gd_app {L R : List Fm} (h : Gd L) (k : Gd R) : Gd (L ++ R) := fun f hf => (List.mem_append.mp hf).elim (h f) (k f)
theorem gd_filter {L : List Fm} (h : Gd L) (p : Fm → Bool) : Gd (L.filter p) := fun f hf => h f (List.mem_filter.mp hf).1
theorem gd_nil : Gd [] := fun _ h => nomatch h
theorem gd_one {f : Fm} (h : f.good) (k : f.dep ≤ 12) : Gd [f] := fun g hg => by rw [List.mem_singleton.mp hg]; exact ⟨h, k⟩
theorem gd_cons {f : Fm} {L : List Fm} (h : f.good) (k : f.dep ≤ 12) (r : Gd L) : Gd (f :: L) := fun g hg => by
  rcases List.mem_cons.mp hg with rfl | hg
  · exact ⟨h, k⟩
  · exact r g hg
theorem gd_sub {L R : List Fm} (h : Gd R) (s : ∀ f ∈ L, f ∈ R) : Gd L := fun f hf => h f (s f hf)
def without (L : List Fm) (f : Fm) : List Fm := L.filter fun g => !decide (g = f)
theorem mem_without {L : List Fm} {f g : Fm} : g ∈ without L f ↔ g ∈ L ∧ g ≠ f := by unfold without; rw [List.mem_filter]; simp
/-! ### what rules put in -/
abbrev Cl := List Fm × List Fm
def Fm.isSg : Fm → Bool
  | .sg _ => true
  | _ => false
def putL : Fm → List Cl
  | .sg _ => []
  | .no g => [([], [g])]
  | .bi .an g h => [([g, h], [])]
  | .bi .o g h => [([g], []), ([h], [])]
  | .bi .th g h => [([], [g]), ([h], [])]
def putR : Fm → List Cl
  | .sg _ => []
  | .no g => [([g], [])]
  | .bi .an g h => [([], [g]), ([], [h])]
  | .bi .o g h => [([], [g, h])]
  | .bi .th g h => [([g], [h])]
/-- the rules but more -/
inductive Wd where
  | same | left | right | lem
  deriving DecidableEq
def Wd.txt : Wd → Str
  | .same => "same"
  | .left => "left"
  | .right => "right"
  | .lem => "lemma"
theorem wtxt_inj : ∀ {a b : Wd}, a.txt = b.txt → a = b := by
  intro a b h
  cases a <;> cases b <;> first | rfl | exact absurd h (by decide +kernel)
theorem wtxt_more : ∀ a : Wd, ¬ a.txt = ("more" : Str) := by intro a; cases a <;> decide +kernel
def putIn : Wd → Fm → List Cl
  | .same, _ => []
  | .left, f => putL f
  | .right, f => putR f
  | .lem, f => [([], [f]), ([f], [])]
def outOf : Wd → Wd → List Fm → Fm → List Fm
  | w, v, L, f => if w = v then without L f else L
/-- what a rule but more leads to -/
def led (c : Cl) (w : Wd) (f : Fm) : List Cl := (putIn w f).map fun p => (once (outOf w .left c.1 f ++ p.1), once (outOf w .right c.2 f ++ p.2))
inductive Ru where
  | fm (w : Wd) (f : Fm)
  | more (c : Cl)
def Cl.toD (c : Cl) : PyData := cD c.1 c.2
def Ru.toD : Ru → PyData
  | .fm w f => .tuple [.str w.txt, f.toD]
  | .more c => .tuple [.str ("more" : Str), cD c.1 c.2]
def wordsC (c : Cl) : Nat := wordsS c.1 + wordsS c.2
def GdC (c : Cl) : Prop := Gd c.1 ∧ Gd c.2
/-- a rule, as the program takes it -/
def Ru.ok : Ru → Prop
  | .fm _ f => f.good ∧ f.dep ≤ 12
  | .more c => GdC c ∧ wordsC c ≤ 60
def Sub (a b : Cl) : Prop := (∀ f ∈ a.1, f ∈ b.1) ∧ ∀ f ∈ a.2, f ∈ b.2
instance (a b : Cl) : Decidable (Sub a b) := by unfold Sub; exact inferInstance
def fits (c : Cl) : Ru → Bool
  | .fm .same f => decide (f ∈ c.1) && decide (f ∈ c.2)
  | .fm .left f => decide (f ∈ c.1) && !f.isSg
  | .fm .right f => decide (f ∈ c.2) && !f.isSg
  | .fm .lem _ => true
  | .more m => decide (Sub m c)
def wants (c : Cl) : Ru → List Cl
  | .fm w f => led c w f
  | .more m => [(once m.1, once m.2)]
/-- two claims alike -/
def Alike (a b : Cl) : Prop := SameF a.1 b.1 ∧ SameF a.2 b.2
end Lm
set_option Elab.async false
set_option linter.all false
set_option maxRecDepth 100000
set_option maxHeartbeats 1000000
/-! list * int, wherever the list comes from; shapes of data -/
namespace Lm
open PySem PySem.Spec PyProof.Rows L2
theorem list_mulW (l : Addr) (items : Array Value) (n : Nat) (dd : Option Addr) (sl : Array (Option Value)) (x : Int) (u : Tok) (hc0 : ¬(!Builtin.List.listFitsIndex x) = true) (hc1 : ¬items.size * x.toNat > (2 ^ 63 - 1) / 8) (hc2 : ¬Builtin.List.listTooLong (items.size * x.toNat) = true) :
    Meets (Builtin.«list.__mul__» ⟨[.ref l, .int x u], []⟩) (fun _ R s => s.heap.get? l = some { cls := .type "list", dict := dd, data := .seq items n, slots := sl } ∧ R (.ok (.ret (Value.ref s.heap.objs.size))) { s with heap := s.heap.push { cls := Value.type "list", data := Data.seq (List.foldl (fun x1 x2 => x1 ++ x2) #[] (List.replicate (if items.isEmpty = true then 0 else x.toNat) items)) }, toks := s.toks }) :=
  .of_wp fun prog w A R s h => by
    obtain ⟨hp, g, d, tk, os⟩ := s; obtain ⟨hl, h⟩ := h
    have hsz := AutoListH.joined_fits hc2
    have f1 := AutoSeq1.idx_int; have f2 := AutoSeq1.sub_tuple_tuple; have f3 := AutoSeq1.sub_list_list; have f4 := AutoSeq1.sub_tuple_list; have f5 := AutoSeq1.sub_list_tuple
    wp_walk using wpAny_loadPart' hl; refine wpAny_ite_false (decide_eq_false (Nat.not_lt.mpr hsz)) ?_; wp_walk; exact ⟨_, rfl, h⟩
theorem int_rmulW (a : Int) (t : Tok) (l : Addr) (items : Array Value) (n : Nat) (dd : Option Addr) (sl : Array (Option Value)) :
    Meets (Builtin.«int.__rmul__» ⟨[.int a t, .ref l], []⟩) (fun _ R s => s.heap.get? l = some { cls := .type "list", dict := dd, data := .seq items n, slots := sl } ∧ R (.ok (.ret Value.notImplemented)) s) :=
  .of_wp fun prog w A R s h => by obtain ⟨hp, g, d, tk, os⟩ := s; obtain ⟨hl, h⟩ := h; wp_walk; exact ⟨_, rfl, h⟩
section
variable {X : Cx}
def rRepL (K : PySem.W.Frag) : R2 := fun x y H Q => ∃ l k xs, x = .ref l ∧ y = .int k ∧ SqL K H l xs ∧ -(2 ^ 63) ≤ k ∧ k < 2 ^ 63 ∧ xs.length * k.toNat ≤ sizeLine ∧ ∀ p, H p = none → Q (.ref p) (upd H p (.lst (List.replicate k.toNat xs).flatten))
theorem op_repL : OpR X (binaryOp .Mult) (rRepL X.K) := by
  intro pins s σ H x y v u Q I rx ry h
  obtain ⟨l, k, xs, rfl, rfl, hH, h1, h2, hz, q⟩ := h
  cases rx
  obtain ⟨t, rfl⟩ := ry
  obtain ⟨its, r, ⟨⟨c1, d1, a1, s1⟩, n, e, e1, e2, e3⟩, _⟩ := I.list hH
  dsimp only at e1 e2 e3
  subst e1 e2 e3
  have hl := r.length
  have hlen : its.toArray.size * k.toNat ≤ sizeLine := by rw [List.size_toArray, ← hl]; exact hz
  have hcap : ¬ its.toArray.size * k.toNat > (2 ^ 63 - 1) / 8 := by
    have : (sizeLine : Nat) ≤ (2 ^ 63 - 1) / 8 := by decide
    omega
  have hfit : ¬ (!Builtin.List.listFitsIndex k) = true := by
    rw [fitsIndex_both h1 h2]
    exact Bool.false_ne_true
  have hlong : ¬ Builtin.List.listTooLong (its.toArray.size * k.toNat) = true := by
    rw [notLongL hlen]
    exact Bool.false_ne_true
  have hnew : List.foldl (fun x1 x2 => x1 ++ x2) #[] (List.replicate (if its.toArray.isEmpty = true then 0 else k.toNat) its.toArray) = (List.replicate k.toNat its).flatten.toArray := by
    have f0 : ∀ m : Nat, List.foldl (fun x1 x2 => x1 ++ x2) #[] (List.replicate m its.toArray) = (List.replicate m its).flatten.toArray := fun m => by
      have := foldl_rep its m []
      rw [List.nil_append] at this
      exact this
    rw [f0]
    cases its with
    | nil => simp
    | cons a r' => rw [if_neg (by simp)]
  refine wpAny_binaryOp_repeat_ref (T := "list") (U := "int") (by decide) ⟨_, e, rfl⟩ (fun s' => typeIs_int s' k t) noFill_list_mul F.fills_int_mul F.slot_int_rmul repeat_list F.slot_int_index.lookup
    (call_meets F.slot_int_rmul (typeIs_int s k t) F.entry_int_rmul (F.args_int_rmul_2 _ _) (int_rmulW k t l its.toArray n _ _)
      ⟨e, rfl, ⟨_, e, rfl⟩, call_meets F.slot_list_mul ⟨_, e, rfl⟩ F.entry_list_mul (F.args_list_mul_2 _ _) (list_mulW l its.toArray n _ _ k t hfit hcap hlong) ⟨e, ?_⟩⟩)
  rw [hnew]
  exact ⟨.ref _, _, I.lnew (t' := s.toks) (r.rep k.toNat) (by rw [PyProof.Rows.lm_len_rep_flat, Nat.mul_comm]; exact hz), rfl, q _ I.fresh⟩
end
theorem dpAll_rep {K : PySem.W.Frag} {H : Hp} {vs : List V} {ds : List PyData} (h : DpAll K H vs ds) : ∀ m : Nat, DpAll K H (List.replicate m vs).flatten (List.replicate m ds).flatten
  | 0 => .nil
  | m + 1 => by
    rw [List.replicate_succ, List.replicate_succ, List.flatten_cons, List.flatten_cons]
    exact dpAll_app h (dpAll_rep h m)
theorem pu_rep {K : PySem.W.Frag} {ρ : Rho} {ta tb : TE} {ds : List PyData} {k : Int} (h1 : PuE K ta ρ (.list ds)) (h2 : PuE K tb ρ (.int k)) (k0 : -(2 ^ 63) ≤ k) (k1 : k < 2 ^ 63) (hl : ds.length * k.toNat ≤ 100000) : PuE K (tOp (rRepL K) ta tb) ρ (.list (List.replicate k.toNat ds).flatten) := fun M σ H hid en Q q =>
  h1 M σ H hid en _ fun v H1 e1 hv => h2 M σ H1 (hid.same e1) (en.same (vis_same e1)) _ fun u H2 e2 hu => by
    obtain ⟨a, vs, rfl, hs, ha⟩ := dp_lstI (dp_same (vis_same e2) _ _ hv)
    refine ⟨a, k, vs, rfl, dp_intI hu, vis_sub.seq hs, k0, k1, sl1000 (by rw [dpAll_len ha]; exact hl), fun p np => ?_⟩
    exact q (.ref p) _ ((e1.trans e2).trans (same_new np _)) (.lst (SqL.of (vis_new (hid.same (e1.trans e2)) np)) (dpAll_same (vis_same (same_new np _)) _ _ (dpAll_rep ha _)))
/-! ### shapes -/
def Shp (n : Nat) (d : PyData) : Prop := d.canLay0 = true ∧ d.depth ≤ n
theorem Shp.mono {n m : Nat} {d : PyData} (h : Shp n d) (l : n ≤ m) : Shp m d := ⟨h.1, Nat.le_trans h.2 l⟩
theorem shp_int (i : Int) : Shp 0 (.int i) := ⟨rfl, Nat.le_refl _⟩
theorem shp_non : Shp 0 .none := ⟨rfl, Nat.le_refl _⟩
theorem shp_bl (b : Bool) : Shp 0 (.bool b) := ⟨rfl, Nat.le_refl _⟩
theorem shp_str {x : Str} (h : PyData.canLay0 (.str x) = true) : Shp 0 (.str x) := ⟨h, Nat.le_refl _⟩
theorem shp_all : ∀ {n : Nat} {ds : List PyData}, (∀ d ∈ ds, Shp n d) → PyData.canLayAll0 ds = true ∧ PyData.depthAll ds ≤ n
  | n, [], _ => ⟨rfl, Nat.zero_le _⟩
  | n, d :: ds, h => by
    obtain ⟨a, b⟩ := shp_all fun x hx => h x (List.mem_cons_of_mem _ hx)
    obtain ⟨c, e⟩ := h d List.mem_cons_self
    refine ⟨?_, ?_⟩
    · show (PyData.canLay0 d && PyData.canLayAll0 ds) = true
      rw [c, a]; rfl
    · show max (PyData.depth d) (PyData.depthAll ds) ≤ n
      omega
theorem shp_lst {n : Nat} {ds : List PyData} (h : ∀ d ∈ ds, Shp n d) : Shp (n + 1) (.list ds) := ⟨(shp_all h).1, Nat.succ_le_succ (shp_all h).2⟩
theorem shp_tup {n : Nat} {ds : List PyData} (h : ∀ d ∈ ds, Shp n d) : Shp (n + 1) (.tuple ds) := ⟨(shp_all h).1, Nat.succ_le_succ (shp_all h).2⟩
theorem Shp.ok {n : Nat} {d : PyData} (h : Shp n d) (l : n ≤ 64) : SeqAt.shaped d = true := by
  show (d.canLay0 && decide (d.depth ≤ 64)) = true
  rw [h.1, Bool.true_and]
  exact decide_eq_true (Nat.le_trans h.2 l)
theorem Shp.refl {n : Nat} {d : PyData} (h : Shp n d) : PyData.eqv d d = true := SeqAt.eqv_refl _ h.1
theorem shp_fm {n : Nat} (f : Fm) (h : f.dep ≤ n) : Shp n f.toD := ⟨Fm.toD_lay f, by rw [Fm.toD_depth]; exact h⟩
end Lm
set_option Elab.async false
set_option linter.all false
set_option maxRecDepth 100000
set_option maxHeartbeats 400000
/-! what the laws draw: mathematics -/
namespace Lm
open PySem PySem.Spec PyProof.Rows L2
def intsD (ns : List Int) : PyData := .list (ns.map PyData.int)
def cellN (ns : List Int) (k : Int) : Int := if k < (ns.length : Int) then (atI ns k).getD 0 else 0
def firstN (ns : List Int) : Int := cellN ns 0 * 48271 % 1000003
def tabN (b : Int) : Int := (atI [37, 10, 37, 1, 20, 37] (b / 100 % 6)).getD 0
def countN (b : Int) : Int := (atI [4, 4, 40, 4, 5, 40] (b / 100 % 6)).getD 0
def signN (k b : Int) : Int := (b + tabN b * (k % countN b)) % 100
def bwN (z : Int) : Bw := if z % 3 = 0 then .an else if z % 3 = 1 then .o else .th
def formN : Nat → Int → Int → Fm
  | 0, c, b => .sg (signN (c / 8) b)
  | n + 1, c, b => if c % 8 < 3 then .sg (signN (c / 8) b) else if c % 8 = 3 then .no (formN n (c / 8 * 48271 % 65537) b)
      else .bi (bwN c) (formN n (c / 8 * 48271 % 65537) b) (formN n (c / 8 * 16807 % 65539) b)
theorem six_of (z : Int) : ∃ j : Nat, j < 6 ∧ z % 6 = (j : Int) := ⟨(z % 6).toNat, by have := Int.emod_lt_of_pos z (by decide : (0 : Int) < 6); have := Int.emod_nonneg z (by decide : (6 : Int) ≠ 0); omega, by have := Int.emod_nonneg z (by decide : (6 : Int) ≠ 0); omega⟩
theorem atI_get' {α : Type} {xs : List α} {j : Nat} (h : j < xs.length) : atI xs (j : Int) = some xs[j] := atI_nat (List.getElem?_eq_getElem h)
theorem countN_at (b : Int) : atI [4, 4, 40, 4, 5, 40] (b / 100 % 6) = some (countN b) ∧ 4 ≤ countN b ∧ countN b ≤ 40 := by
  obtain ⟨j, hj, e⟩ := six_of (b / 100)
  unfold countN
  rw [e]
  match j, hj with
  | 0, _ => exact ⟨rfl, by decide, by decide⟩
  | 1, _ => exact ⟨rfl, by decide, by decide⟩
  | 2, _ => exact ⟨rfl, by decide, by decide⟩
  | 3, _ => exact ⟨rfl, by decide, by decide⟩
  | 4, _ => exact ⟨rfl, by decide, by decide⟩
  | 5, _ => exact ⟨rfl, by decide, by decide⟩
theorem tabN_at (b : Int) : atI [37, 10, 37, 1, 20, 37] (b / 100 % 6) = some (tabN b) ∧ -(2 ^ 64) < tabN b ∧ tabN b < 2 ^ 64 := by
  obtain ⟨j, hj, e⟩ := six_of (b / 100)
  unfold tabN
  rw [e]
  match j, hj with
  | 0, _ => exact ⟨rfl, by decide, by decide⟩
  | 1, _ => exact ⟨rfl, by decide, by decide⟩
  | 2, _ => exact ⟨rfl, by decide, by decide⟩
  | 3, _ => exact ⟨rfl, by decide, by decide⟩
  | 4, _ => exact ⟨rfl, by decide, by decide⟩
  | 5, _ => exact ⟨rfl, by decide, by decide⟩
theorem bwN_at (z : Int) : atI [PyData.str ("and" : Str), PyData.str ("or" : Str), PyData.str ("then" : Str)] (z % 3) = some (.str (bwN z).txt) := by
  have h0 := Int.emod_nonneg z (by decide : (3 : Int) ≠ 0)
  have h1 := Int.emod_lt_of_pos z (by decide : (0 : Int) < 3)
  unfold bwN
  by_cases a : z % 3 = 0
  · rw [if_pos a, a]; rfl
  · by_cases b : z % 3 = 1
    · rw [if_neg a, if_pos b, b]; rfl
    · rw [if_neg a, if_neg b, show z % 3 = 2 by omega]; rfl
theorem signN_ok (k b : Int) : 0 ≤ signN k b ∧ signN k b ≤ 99 := by
  unfold signN
  have h0 := Int.emod_nonneg (b + tabN b * (k % countN b)) (by decide : (100 : Int) ≠ 0)
  have h1 := Int.emod_lt_of_pos (b + tabN b * (k % countN b)) (by decide : (0 : Int) < 100)
  omega
theorem formN_good : ∀ (n : Nat) (c b : Int), (formN n c b).good
  | 0, c, b => signN_ok _ _
  | n + 1, c, b => by
    rw [formN]
    split
    · exact signN_ok _ _
    · split
      · exact formN_good n _ b
      · exact ⟨formN_good n _ b, formN_good n _ b⟩
theorem formN_dep : ∀ (n : Nat) (c b : Int), (formN n c b).dep ≤ n + 1
  | 0, c, b => Nat.le_refl 1
  | n + 1, c, b => by
    rw [formN]
    split
    · show 1 ≤ n + 1 + 1; omega
    · split
      · have := formN_dep n (c / 8 * 48271 % 65537) b
        show (formN n (c / 8 * 48271 % 65537) b).dep + 1 ≤ n + 1 + 1
        omega
      · have h1 := formN_dep n (c / 8 * 48271 % 65537) b
        have h2 := formN_dep n (c / 8 * 16807 % 65539) b
        show max (formN n (c / 8 * 48271 % 65537) b).dep (formN n (c / 8 * 16807 % 65539) b).dep + 1 ≤ n + 1 + 1
        omega
/-- the law's own wants -/
def lwants (c : Cl) : Ru → Option (List Cl)
  | .more m => if Sub m c then some [m] else none
  | .fm .lem f => some [(once c.1, once (once c.2 ++ [f])), (once (once c.1 ++ [f]), once c.2)]
  | .fm .same f => if f ∈ once c.1 ∧ f ∈ once c.2 then some [] else none
  | .fm .left f => if f ∈ once c.1 ∧ f.isSg = false then some ((putL f).map fun p => (once (without (once c.1) f ++ p.1), once (once c.2 ++ p.2))) else none
  | .fm .right f => if f ∈ once c.2 ∧ f.isSg = false then some ((putR f).map fun p => (once (once c.1 ++ p.1), once (without (once c.2) f ++ p.2))) else none
def optD : Option (List Cl) → PyData
  | none => .none
  | some cs => .list (cs.map Cl.toD)
end Lm
set_option Elab.async false
set_option linter.all false
set_option maxRecDepth 100000
set_option maxHeartbeats 2000000
namespace Lm
open PySem PySem.Spec PyProof.Rows L2
def top (i : Nat) : Stmt := PySem.Challenge.pw_lemmaless_k04_what_rules_want.main.body.getD i (.Pass ⟨0, 0, 0, 0⟩)
abbrev sCLineError : Stmt := top 1
abbrev sCBadClaim : Stmt := top 2
abbrev sIsNum : Stmt := top 8
abbrev sIsFormula : Stmt := top 9
abbrev sIsF : Stmt := top 10
abbrev sIsSign : Stmt := top 11
abbrev sInner : Stmt := top 12
abbrev sWords : Stmt := top 13
abbrev sIsClaim : Stmt := top 15
abbrev sNoClaim : Stmt := top 16
abbrev sStandsIn : Stmt := top 17
abbrev sAllIn : Stmt := top 18
abbrev sToldOnce : Stmt := top 19
abbrev sEachOnce : Stmt := top 20
abbrev sWanted : Stmt := top 22
abbrev sFits : Stmt := top 23
abbrev sLedTo : Stmt := top 24
abbrev sPutIn : Stmt := top 25
abbrev sPutL : Stmt := top 26
abbrev sPutR : Stmt := top 27
abbrev sCell : Stmt := top 29
abbrev sFirst : Stmt := top 30
abbrev sCount : Stmt := top 31
abbrev sSign : Stmt := top 32
abbrev sFormula : Stmt := top 33
abbrev sWith : Stmt := top 34
abbrev sWithout : Stmt := top 35
abbrev sWithin : Stmt := top 36
abbrev sSplit : Stmt := top 37
abbrev sLWanted : Stmt := top 38
abbrev sLWords : Stmt := top 39
abbrev sSide : Stmt := top 40
abbrev sLClaim : Stmt := top 41
abbrev sLRule : Stmt := top 42
abbrev sKnown : Stmt := top 43
abbrev sLClaimIs : Stmt := top 44
abbrev sGood : Stmt := top 45
abbrev sLaw : Stmt := top 46
end Lm
set_option Elab.async false
set_option linter.all false
set_option maxRecDepth 100000
set_option maxHeartbeats 2000000
namespace Lm
open PySem PySem.Spec PyProof.Rows L2
section
variable {P : Program} {w : World} {K : PySem.W.Frag} {mg : Str → Option Value} {base : Heap} {f : Addr} {fd : FuncData}
/-! ### is_number, _is_sign -/
theorem scIsNum : FnScope ["thing"] ["thing"] (defScope sIsNum) := ⟨rfl, rfl, rfl, by decide +kernel, rfl, by decide +kernel, by decide +kernel⟩
theorem ok_isNum (D : Df K mg "is_number" sIsNum ["thing"] f fd) (B : Blt mg) : FnOk P w K mg base CX0 1 f fd ["thing"] (spIsNum K) := by
  refine D.fn.ok scIsNum (fun vs H Q E h => ?_) (fun cdv A outer s H vs Q E hr h => ?_)
  · obtain ⟨v, d, rfl, _⟩ := h
    rfl
  obtain ⟨v, d, rfl, hd, q⟩ := h
  refine ⟨_, pss_one (ps_ret (pe_and (pe_callB call_isi (by rfl) B.isinstance bt_isinstance (pa_cons (pv 0) (pa_cons (pe_bltn (v := .ty "int") (by rfl) B.int bt_int rfl) pa_nil)))
    (pe_one (pe_not (pe_callB call_isi (by rfl) B.isinstance bt_isinstance (pa_cons (pv 0) (pa_cons (pe_bltn (v := .ty "bool") (by rfl) B.bool bt_bool rfl) pa_nil))))))), ?_⟩
  refine ⟨v, rfl, v, .ty "int", _, _, _, rfl, .ty "int", tyx_of hd, kit_int hd, isIB d, rfl, ?_⟩
  refine ite2 (fun c => ?_) (fun c => ?_)
  · refine ⟨v, rfl, v, .ty "bool", _, _, _, rfl, .ty "bool", tyx_of hd, kit_bool hd, isBl d, rfl, ?_⟩
    have e : (!isBl d) = isNum d := by cases d <;> first | rfl | exact (Bool.false_ne_true c).elim
    rw [e]
    exact q
  · have e : isNum d = false := by cases d <;> first | rfl | exact absurd rfl c
    rw [e] at q
    exact q
theorem scIsSign : FnScope ["thing"] ["thing"] (defScope sIsSign) := ⟨rfl, rfl, rfl, by decide +kernel, rfl, by decide +kernel, by decide +kernel⟩
theorem ok_isSign {t : Tok} (D : Df K mg "_is_sign" sIsSign ["thing"] f fd) (N : Has P w K mg base 1 "is_number" ["thing"] (spIsNum K)) (ms : mg "MOST_SIGN" = some (.int 99 t)) : FnOk P w K mg base CX0 2 f fd ["thing"] (spIsSign K) := by
  refine D.fn.ok scIsSign (fun vs H Q E h => ?_) (fun cdv A outer s H vs Q E hr h => ?_)
  · obtain ⟨v, d, rfl, _⟩ := h
    rfl
  obtain ⟨v, d, rfl, hd, q⟩ := h
  refine ⟨_, pss_one (ps_ret (pe_and (pe_callH N hr (by rfl) (pa_cons (pv 0) pa_nil)) (pe_one (pe_chain op_le op_le pe_int (pv 0) (pe_glob (v := .int 99) (by rfl) ms ⟨_, rfl⟩))))), ?_⟩
  refine ⟨v, rfl, v, d, rfl, hd, isNum d, rfl, ?_⟩
  refine ite2 (fun c => ?_) (fun c => ?_)
  · cases hd with
    | int i =>
      refine ⟨.int i, rfl, 0, i, rfl, rfl, _, rfl, ?_⟩
      refine ite2 (fun c1 => ?_) (fun c1 => ?_)
      · refine ⟨i, 99, rfl, rfl, ?_⟩
        have e : isSg (.int i) = decide (i ≤ 99) := by
          show (decide (0 ≤ i) && decide (i ≤ 99)) = _
          rw [c1, Bool.true_and]
        rw [e] at q
        exact q
      · have e : isSg (.int i) = false := by
          show (decide (0 ≤ i) && decide (i ≤ 99)) = _
          rw [Bool.eq_false_iff.mpr c1, Bool.false_and]
        rw [e] at q
        exact q
    | _ => exact (Bool.false_ne_true c).elim
  · have e : isSg d = false := by cases d <;> first | rfl | exact absurd rfl c
    rw [e] at q
    exact q
end
end Lm
set_option Elab.async false
set_option linter.all false
set_option maxRecDepth 100000
set_option maxHeartbeats 2000000
namespace Lm
open PySem PySem.Spec PyProof.Rows L2
theorem at0 (x : V) (xs : List V) : atI (x :: xs) 0 = some x := atI_nat (j := 0) rfl
theorem at1 (x y : V) (xs : List V) : atI (x :: y :: xs) 1 = some y := atI_nat (j := 1) rfl
section
variable {P : Program} {w : World} {K : PySem.W.Frag} {mg : Str → Option Value} {base : Heap} {f : Addr} {fd : FuncData}
/-! ### _is_formula_of -/
theorem scIsF : FnScope ["thing", "deep", "word", "inner"] ["thing", "deep"] (defScope sIsF) := ⟨rfl, rfl, rfl, by decide +kernel, rfl, by decide +kernel, by decide +kernel⟩
theorem ok_isF {n : Nat} {dd : Addr} {es : Array DictEntry} {m : Nat} (D : Df K mg "_is_formula_of" sIsF ["thing", "deep"] f fd) (B : Blt mg) (G : Has P w K mg base (n + 2) "_is_formula_of" ["thing", "deep"] (spIsF K n))
    (S : Has P w K mg base 2 "_is_sign" ["thing"] (spIsSign K)) (M : ManyD K w dd es m) (mM : mg "MANY_INNER" = some (.ref dd)) : FnOk P w K mg base CX0 (n + 3) f fd ["thing", "deep"] (spIsF K (n + 1)) := by
  refine D.fn.ok scIsF (fun vs H Q E h => ?_) (fun cdv A outer s H vs Q E hr h => ?_)
  · obtain ⟨v, d, k, rfl, _⟩ := h
    rfl
  obtain ⟨v, d, k, rfl, hd, h0, hk, q0⟩ := h
  have q : ∀ (b : Bool) (H' : Hp), Same H H' → isF k.toNat d = b → Q (.bl b) H' := fun b H' e h => h ▸ q0 H' e
  have hr2 : Room 2 (A.deeper (envOfC "_is_formula_of" (defScope sIsF) s.heap.objs.size f cdv)) := hr.mono (by omega)
  refine ⟨_, pss_cons (ps_if (PW.pt (pw_or (pt_cmpR op_eq (pv 1) pe_int (nomark _)) (pw_or (pt_not (pt_val (pe_callB call_isi (by rfl) B.isinstance bt_isinstance (pa_cons (pv 0) (pa_cons (pe_bltn (v := .ty "tuple") (by rfl) B.tuple bt_tuple rfl) pa_nil)))))
      (pw_or1 (pt_cmpR op_eq (pe_callB call_len_seq (by rfl) B.len PySem.boot_len (pa_cons (pv 0) pa_nil)) pe_int (nomark _)))))) (pss_one (ps_ret pe_bl)) pss_nil)
    (pss_cons (ps_set (i := 2) scIsF.nd rfl (.inl rfl) (pe_ix ix_tup (pv 0) pe_int (fun _ _ => rfl)))
    (pss_cons (ps_if (pt_not (pt_val (pe_callB call_isi (by rfl) B.isinstance bt_isinstance (pa_cons (pv 2) (pa_cons (pe_bltn (v := .ty "str") (by rfl) B.str bt_str rfl) pa_nil))))) (pss_one (ps_ret pe_bl)) pss_nil)
    (pss_cons (ps_if (pt_cmpR op_eq (pv 2) pe_str (nomark _)) (pss_one (ps_ret (pe_and (pe_cmpR op_eq (pe_callB call_len_seq (by rfl) B.len PySem.boot_len (pa_cons (pv 0) pa_nil)) pe_int (nomark _))
      (pe_one (pe_callH S hr2 (by rfl) (pa_cons (pe_ix ix_tup (pv 0) pe_int (fun _ _ => rfl)) pa_nil)))))) pss_nil)
    (pss_cons (ps_if (PW.pt (pw_or (pt_cmpR (op_notIn_kd M.kd) (pv 2) (pe_glob (v := .ref dd) (by rfl) mM rfl) (by rfl))
      (pw_or1 (pt_cmpR op_ne (pe_callB call_len_seq (by rfl) B.len PySem.boot_len (pa_cons (pv 0) pa_nil)) (pe_op op_add pe_int (pe_ix ix_kdict (pe_glob (v := .ref dd) (by rfl) mM rfl) (pv 2) (fun _ _ => rfl))) (nomark _))))) (pss_one (ps_ret pe_bl)) pss_nil)
    (pss_one (ps_ret (pe_callB (cr_all rfl) (by rfl) B.all bt_all (pa_cons (pe_lc (own := [("inner", 3)]) (g := gName 3) (tt := tYes) rfl scIsF.nd (pi_tup (pe_slice sl_tup (pv 0) (po_some pe_int) po_none))
      (blkOk_by (N := ["thing", "deep", "word", "inner"]) (sc := defScope sIsF) (by decide +kernel)) (fun _ _ _ _ _ => pg_name (i := 3) scIsF.nd rfl (Or.inl rfl)) (fun _ _ _ _ _ => pts_nil)
      (fun _ _ _ _ _ => pe_callH G hr (by rfl) (pa_cons (pv 3) (pa_cons (pe_op op_sub (pv 1) pe_int) pa_nil)))) pa_nil)))))))), ?_⟩
  -- deep == 0
  refine ⟨.int k, rfl, rfl, _, rfl, ?_⟩
  refine ite2 (fun c => ?_) (fun c => ?_)
  · have e : k = 0 := V.int.inj (of_decide_eq_true c)
    refine q false H (Same.refl H) ?_
    rw [e]
    exact isF_zero d
  have hk0 : 0 < k := by
    rcases Int.lt_or_eq_of_le h0 with z | z
    · exact z
    · exact absurd (decide_eq_true (congrArg V.int z.symm)) c
  obtain ⟨j, hj⟩ : ∃ j : Nat, k.toNat = j + 1 := ⟨k.toNat - 1, by omega⟩
  -- a tuple
  refine ⟨v, rfl, v, .ty "tuple", _, _, _, rfl, .ty "tuple", tyx_of hd, kit_tuple hd, isTu d, rfl, ?_⟩
  refine ite2 (fun c1 => ?_) (fun c1 => ?_)
  · refine q false H (Same.refl H) ?_
    rw [hj]
    cases d <;> first | rfl | exact (Bool.false_ne_true c1).elim
  cases hd with
  | tup hs ha =>
    rename_i a xs ds
    have hlen := dpAll_len ha
    -- len(thing) == 0
    refine ⟨.ref a, rfl, a, xs, rfl, .inr hs, rfl, _, rfl, ?_⟩
    refine ite2 (fun c2 => ?_) (fun c2 => ?_)
    · refine q false H (Same.refl H) ?_
      have e : ((xs.length : Nat) : Int) = 0 := V.int.inj (of_decide_eq_true c2)
      have e2 : ds.length = 0 := by omega
      rw [hj, List.eq_nil_of_length_eq_zero e2]
      rfl
    cases ha with
    | nil => exact absurd (decide_eq_true rfl) c2
    | @cons wv ws d0 ds h1 h2 =>
      -- word = thing[0]
      refine ⟨.ref a, rfl, a, _, 0, wv, rfl, rfl, hs, at0 _ _, ?_⟩
      -- isinstance(word, str)
      refine ⟨wv, rfl, wv, .ty "str", _, _, _, rfl, .ty "str", tyx_of h1, kit_str h1, isSt d0, rfl, ?_⟩
      refine ite2 (fun c3 => ?_) (fun c3 => ?_)
      · refine q false H (Same.refl H) ?_
        rw [hj]
        cases d0 <;> first | rfl | exact (Bool.false_ne_true c3).elim
      cases h1 with
      | str x =>
        -- word == 'sign'
        refine ⟨.str x, rfl, rfl, _, rfl, ?_⟩
        refine ite2 (fun c4 => ?_) (fun c4 => ?_)
        · have ex : x = ("sign" : Str) := V.str.inj (of_decide_eq_true c4)
          have isf : isF k.toNat (.tuple (.str x :: ds)) = sgOf ds := by rw [hj, isF, if_pos ex]
          refine ⟨.ref a, rfl, a, _, rfl, .inr hs, rfl, _, rfl, ?_⟩
          refine ite2 (fun c5 => ?_) (fun c5 => ?_)
          · have e : (((V.str x :: ws).length : Nat) : Int) = 2 := V.int.inj (of_decide_eq_true c5)
            cases h2 with
            | nil => exact absurd e (by show ¬ ((1 : Nat) : Int) = 2; decide)
            | @cons y ws d1 ds k1 k2 =>
              cases k2 with
              | cons _ _ =>
                rw [List.length_cons, List.length_cons, List.length_cons] at e
                omega
              | nil =>
                refine ⟨.ref a, rfl, a, _, 1, y, rfl, rfl, hs, at1 _ _ _, y, d1, rfl, k1, ?_⟩
                exact q (isSg d1) H (Same.refl H) isf
          · refine q false H (Same.refl H) ?_
            rw [isf]
            cases h2 with
            | nil => rfl
            | @cons y ws d1 ds k1 k2 =>
              cases k2 with
              | cons _ _ => rfl
              | nil => exact absurd (decide_eq_true rfl) c5
        have ex : ¬ x = ("sign" : Str) := fun z => c4 (decide_eq_true (congrArg V.str z))
        have isf : isF k.toNat (.tuple (.str x :: ds)) = (match arOf x with | none => false | some k => decide (((ds.length + 1 : Nat) : Int) = 1 + k) && (ds.map (isF j)).all id) := by
          rw [hj, isF, if_neg ex]
          all_goals rfl
        -- word not in MANY_INNER
        obtain ⟨r, hr1, hr3⟩ := M.is x
        refine ⟨.str x, rfl, x, r, rfl, rfl, hr1, _, rfl, ?_⟩
        refine ite2 (fun c6 => ?_) (fun c6 => ?_)
        · refine q false H (Same.refl H) ?_
          rw [isf]
          cases e : arOf x with
          | none => rfl
          | some z =>
            rw [hr3, e] at c6
            exact (Bool.false_ne_true c6).elim
        cases e : arOf x with
        | none =>
          rw [hr3, e] at c6
          exact absurd rfl c6
        | some z =>
          obtain ⟨t, ht⟩ := M.get e
          refine ⟨.ref a, rfl, a, _, rfl, .inr hs, .str x, rfl, dd, x, .int z, rfl, rfl, ⟨es, m, .int z t, M.kd.at_, M.kd.lit, ht, ⟨t, rfl⟩⟩, 1, z, rfl, rfl, rfl, _, rfl, ?_⟩
          have hl2 : ws.length = ds.length := dpAll_len h2
          refine ite2 (fun c7 => ?_) (fun c7 => ?_)
          · refine q false H (Same.refl H) ?_
            have ne : ¬ ((ds.length + 1 : Nat) : Int) = 1 + z := fun zz => by
              have zz2 : (((V.str x :: ws).length : Nat) : Int) = 1 + z := by rw [List.length_cons, hl2]; exact zz
              rw [decide_eq_true (congrArg V.int zz2)] at c7
              exact Bool.false_ne_true c7
            rw [isf, e]
            show (decide (((ds.length + 1 : Nat) : Int) = 1 + z) && _) = false
            rw [decide_eq_false ne, Bool.false_and]
          · have eq2 : ((ds.length + 1 : Nat) : Int) = 1 + z := by
              by_cases zz : (((V.str x :: ws).length : Nat) : Int) = 1 + z
              · rw [List.length_cons, hl2] at zz
                exact zz
              · rw [decide_eq_false (fun y => zz (V.int.inj y))] at c7
                exact absurd rfl c7
            -- all([..])
            refine ⟨.ref a, rfl, 1, rfl, a, _, rfl, hs, cutNot _ _, fun p np => ⟨p, rfl, ⟨_, SqT.of upd_same⟩, fun L nL => ?_⟩⟩
            have hp : SqT K (upd H p (.tup (cutV (V.str x :: ws) (some 1) none))) p ws := SqT.of (by rw [upd_same, cut1a])
            have s1 : Same H (upd H p (.tup (cutV (V.str x :: ws) (some 1) none))) := same_new np _
            have lz : ws.length ≤ sizeLine := by
              have z1 : z ≤ 2 := by
                unfold arOf at e
                split at e
                · cases e; decide
                · split at e
                  · cases e; decide
                  · split at e
                    · cases e; decide
                    · split at e
                      · cases e; decide
                      · cases e
              refine sl1000 ?_
              omega
            refine lc_map_tup (K := K) (a := p) (xs := ws) (ys := ((ds.map (isF j)).map V.bl)) (j := 3) hp nL (by rw [List.length_map, List.length_map, hl2]) (by rw [List.length_map, List.length_map, ← hl2]; exact lz) (fun i y b H' hi hb e1 Q' q' => ?_) (fun H' e1 hL => ?_)
            · obtain ⟨di, hdi, hy⟩ := dpAll_get h2 hi
              have eb : b = .bl (isF j di) := by
                rw [List.getElem?_map, List.getElem?_map, hdi] at hb
                exact (Option.some.inj hb).symm
              refine ⟨y, rfl, .int k, rfl, k, 1, rfl, rfl, y, di, k - 1, rfl, dp_same (s1.trans e1) _ _ hy, by omega, by omega, fun H'' e2 => ?_⟩
              have ej : (k - 1).toNat = j := by omega
              rw [ej]
              rw [eb] at q'
              exact q' H'' e2
            · refine ⟨L, ds.map (isF j), rfl, SqL.of hL, ?_⟩
              refine q _ H' (s1.trans e1) ?_
              rw [isf, e]
              show (decide (((ds.length + 1 : Nat) : Int) = 1 + z) && _) = _
              rw [decide_eq_true eq2, Bool.true_and]
      | _ => exact absurd rfl c3
  | _ => exact absurd rfl c1
end
end Lm
set_option Elab.async false
set_option linter.all false
set_option maxRecDepth 100000
set_option maxHeartbeats 2000000
namespace Lm
open PySem PySem.Spec PyProof.Rows L2
theorem kid_get {K : PySem.W.Frag} {H : Hp} {ys : List V} {fs : List Fm} (h : DpAll K H ys (fs.map Fm.toD)) {i : Nat} {y : V} (e : ys[i]? = some y) : ∃ g, fs[i]? = some g ∧ Dp K H y g.toD := by
  obtain ⟨d, hd, hy⟩ := dpAll_get h e
  rw [List.getElem?_map] at hd
  cases q : fs[i]? with
  | none => rw [q] at hd; cases hd
  | some g =>
    rw [q] at hd
    exact ⟨g, rfl, (Option.some.inj hd) ▸ hy⟩
theorem kid_dep : ∀ {f g : Fm}, g ∈ f.kids → g.dep < f.dep
  | .sg _, g, h => nomatch h
  | .no f, g, h => by
    rw [List.mem_singleton.mp h]
    exact Nat.lt_succ_self _
  | .bi w f k, g, h => by
    show g.dep < max f.dep k.dep + 1
    rcases List.mem_cons.mp h with e | h
    · rw [e]; omega
    · rw [List.mem_singleton.mp h]; omega
theorem kid_good : ∀ {f g : Fm}, f.good → g ∈ f.kids → g.good
  | .sg _, g, _, h => nomatch h
  | .no f, g, hf, h => by
    rw [List.mem_singleton.mp h]
    exact hf
  | .bi w f k, g, hf, h => by
    rcases List.mem_cons.mp h with e | h
    · rw [e]; exact hf.1
    · rw [List.mem_singleton.mp h]; exact hf.2
theorem kids_len : ∀ f : Fm, f.kids.length ≤ 2
  | .sg _ => Nat.zero_le _
  | .no _ => (by decide : 1 ≤ 2)
  | .bi _ _ _ => Nat.le_refl 2
theorem log_small {i : Int} (h : 0 ≤ i ∧ i ≤ 99) : i.natAbs.log2 < 1920 := by
  have q : ∀ m : Fin 100, m.val.log2 < 1920 := by decide +kernel
  exact q ⟨i.natAbs, by omega⟩
theorem str_len (x y : Str) : (x ++ y).length = x.length + y.length := by
  rw [TL.len_tl, TL.tl_append, List.length_append, ← TL.len_tl, ← TL.len_tl]
section
variable {P : Program} {w : World} {K : PySem.W.Frag} {mg : Str → Option Value} {base : Heap} {f : Addr} {fd : FuncData}
theorem all_isF {dd : Addr} {es : Array DictEntry} {m : Nat} (D : Df K mg "_is_formula_of" sIsF ["thing", "deep"] f fd) (B : Blt mg)
    (S : Has P w K mg base 2 "_is_sign" ["thing"] (spIsSign K)) (M : ManyD K w dd es m) (mM : mg "MANY_INNER" = some (.ref dd)) : ∀ n : Nat, Has P w K mg base (n + 2) "_is_formula_of" ["thing", "deep"] (spIsF K n)
  | 0 => by
    have no : ∀ vs H Q E, ¬ spIsF K 0 vs H Q E := fun vs H Q E h => by
      obtain ⟨v, d, k, _, _, h1, h2, _⟩ := h
      omega
    exact D.has ⟨fun vs H Q E h => absurd h (no vs H Q E), fun A outer s H args us vs Q E _ _ _ _ h => absurd h (no vs H Q E)⟩
  | n + 1 => D.has (ok_isF D B (all_isF D B S M mM n) S M mM)
theorem scIsFormula : FnScope ["thing"] ["thing"] (defScope sIsFormula) := ⟨rfl, rfl, rfl, by decide +kernel, rfl, by decide +kernel, by decide +kernel⟩
theorem ok_isFormula {t : Tok} (D : Df K mg "is_formula" sIsFormula ["thing"] f fd) (G : Has P w K mg base 15 "_is_formula_of" ["thing", "deep"] (spIsF K 13)) (md : mg "MOST_DEEP" = some (.int 12 t)) : FnOk P w K mg base CX0 16 f fd ["thing"] (spIsFormula K) := by
  refine D.fn.ok scIsFormula (fun vs H Q E h => ?_) (fun cdv A outer s H vs Q E hr h => ?_)
  · obtain ⟨v, d, rfl, _⟩ := h
    rfl
  obtain ⟨v, d, rfl, hd, q⟩ := h
  refine ⟨_, pss_one (ps_ret (pe_callH G hr (by rfl) (pa_cons (pv 0) (pa_cons (pe_glob (v := .int 12) (by rfl) md ⟨_, rfl⟩) pa_nil)))), ?_⟩
  exact ⟨v, rfl, v, d, 12, rfl, hd, by decide, by decide, fun H' e => q H' e⟩
/-! ### inner_formulas -/
theorem scInner : FnScope ["f"] ["f"] (defScope sInner) := ⟨rfl, rfl, rfl, by decide +kernel, rfl, by decide +kernel, by decide +kernel⟩
theorem ok_inner (D : Df K mg "inner_formulas" sInner ["f"] f fd) : FnOk P w K mg base CX0 1 f fd ["f"] (spInner K) := by
  refine D.fn.ok scInner (fun vs H Q E h => ?_) (fun cdv A outer s H vs Q E hr h => ?_)
  · obtain ⟨v, g, rfl, _⟩ := h
    rfl
  obtain ⟨v, g, rfl, hd, q⟩ := h
  refine ⟨_, pss_cons (ps_if (pt_cmpR op_eq (pe_ix ix_tup (pv 0) pe_int (fun _ _ => rfl)) pe_str (nomark _)) (pss_one (ps_ret (pe_tup pa_nil))) pss_nil)
    (pss_one (ps_ret (pe_slice sl_tup (pv 0) (po_some pe_int) po_none))), ?_⟩
  obtain ⟨a, x, xs, rfl, hs, hm⟩ := dp_kids hd
  cases g with
  | sg i =>
    obtain ⟨rfl, rfl⟩ := hm
    refine ⟨.ref a, rfl, a, _, 0, _, rfl, rfl, hs, at0 _ _, rfl, _, rfl, ?_⟩
    refine ite2 (fun c => ?_) (fun c => absurd (decide_eq_true rfl) c)
    refine ⟨Nat.zero_le _, fun p np => ?_⟩
    exact q p _ [] (same_new np _) (SqT.of upd_same) .nil
  | no g =>
    obtain ⟨rfl, hx⟩ := hm
    refine ⟨.ref a, rfl, a, _, 0, _, rfl, rfl, hs, at0 _ _, rfl, _, rfl, ?_⟩
    refine ite2 (fun c => ?_) (fun c => ?_)
    · exact absurd (V.str.inj (of_decide_eq_true c)) (by decide +kernel)
    refine ⟨.ref a, rfl, 1, rfl, a, _, rfl, hs, cutNot _ _, fun p np => ?_⟩
    exact q p _ xs (same_new np _) (SqT.of (by rw [upd_same, cut1a])) (dpAll_same (same_new np _) _ _ hx)
  | bi b g k =>
    obtain ⟨rfl, hx⟩ := hm
    refine ⟨.ref a, rfl, a, _, 0, _, rfl, rfl, hs, at0 _ _, rfl, _, rfl, ?_⟩
    refine ite2 (fun c => ?_) (fun c => ?_)
    · exact absurd (V.str.inj (of_decide_eq_true c)) (txt_sign b)
    refine ⟨.ref a, rfl, 1, rfl, a, _, rfl, hs, cutNot _ _, fun p np => ?_⟩
    exact q p _ xs (same_new np _) (SqT.of (by rw [upd_same, cut1a])) (dpAll_same (same_new np _) _ _ hx)
/-! ### spelled -/
theorem len_le {x : Str} {n : Nat} (h : x.length ≤ n) (hn : n ≤ 100000) : x.length ≤ sizeLine := sl1000 (Nat.le_trans h hn)
theorem len_of (x : Str) : x.length = (TL.tl x).length := TL.len_tl x
theorem cs_not : ("not" : Str).length = 3 := by decide +kernel
theorem cs_open : ("(" : Str).length = 1 := by decide +kernel
theorem cs_close : (")" : Str).length = 1 := by decide +kernel
theorem cs_comma : ("," : Str).length = 1 := by decide +kernel
theorem cs_empty : (Str.empty).length = 0 := rfl
theorem cs_txt (b : Bw) : b.txt.length ≤ 4 := by cases b <;> decide +kernel
theorem join1 (x : Str) : Txt.join ("," : Str) [x] = x := by rw [TL.join_eq]; rfl
theorem join2 (x y : Str) : Txt.join ("," : Str) [x, y] = (x ++ ("," : Str)) ++ y := by rw [TL.join_eq]; rfl
end
end Lm
set_option Elab.async false
set_option linter.all false
set_option maxRecDepth 100000
set_option maxHeartbeats 400000
namespace Lm
open PySem PySem.Spec PyProof.Rows L2
section
variable {P : Program} {w : World} {K : PySem.W.Frag} {mg : Str → Option Value} {base : Heap} {f : Addr} {fd : FuncData}
/-! ### truth -/
end
end Lm
set_option Elab.async false
set_option linter.all false
set_option maxRecDepth 100000
set_option maxHeartbeats 2000000
namespace Lm
open PySem PySem.Spec PyProof.Rows L2
/-! ### what is a formula, told back -/
/-! ### defs that raise -/
section
variable {P : Program} {w : World} {K : PySem.W.Frag} {mg : Str → Option Value} {base : Heap} {f : Addr} {fd : FuncData}
def spRefuse (K : PySem.W.Frag) (C0 : Addr) : Sp := fun vs H Q E => ∃ v d, vs = [v] ∧ Dp K H v d ∧ (isF 12 d = true → ∀ H', Same H H' → Q .non H') ∧ (isF 12 d = false → ∀ H', Same H H' → E (.ref C0) none H')
def spTruthN (K : PySem.W.Frag) (C0 : Addr) : Sp := fun vs H Q E => ∃ (v : V) (d : PyData) (a : Addr) (ns : List Int), vs = [v, .ref a] ∧ Dp K H v d ∧ SqL K H a (ns.map V.int) ∧ ns.length ≤ 1000 ∧
  (∀ g : Fm, d = g.toD → g.good → g.dep ≤ 12 → ∀ H', Same H H' → Q (.bl (g.tr fun i => decide (i ∈ ns))) H') ∧ (isF 12 d = false → ∀ H', Same H H' → E (.ref C0) none H')
end
end Lm
set_option Elab.async false
set_option linter.all false
set_option maxRecDepth 100000
set_option maxHeartbeats 400000
namespace Lm
open PySem PySem.Spec PyProof.Rows L2
def spWords (K : PySem.W.Frag) (n : Nat) : Sp := fun vs H Q _ => ∃ (v : V) (f : Fm), vs = [v] ∧ Dp K H v f.toD ∧ f.dep < n ∧ ∀ H', Same H H' → Q (.int (f.size : Int)) H'
def spIsClaim (K : PySem.W.Frag) : Sp := fun vs H Q _ => ∃ (v : V) (d : PyData), vs = [v] ∧ Dp K H v d ∧ short d ∧ ∀ H', Same H H' → Q (.bl (isC d)) H'
def spNoClaim (K : PySem.W.Frag) (C0 : Addr) : Sp := fun vs H Q E => ∃ (v : V) (d : PyData), vs = [v] ∧ Dp K H v d ∧ short d ∧ (isC d = true → ∀ H', Same H H' → Q .non H') ∧ (isC d = false → ∀ H', Same H H' → E (.ref C0) none H')
theorem sum_sizes (f : Fm) : 1 + ((f.kids.map fun k => (k.size : Int)).sum) = (f.size : Int) := by
  cases f with
  | sg i => rfl
  | no f => show 1 + ((f.size : Int) + 0) = ((f.size + 1 : Nat) : Int); omega
  | bi w f g => show 1 + ((f.size : Int) + ((g.size : Int) + 0)) = ((f.size + g.size + 1 : Nat) : Int); omega
section
variable {P : Program} {w : World} {K : PySem.W.Frag} {mg : Str → Option Value} {base : Heap} {f : Addr} {fd : FuncData}
theorem scWords : FnScope ["f", "inner"] ["f"] (defScope sWords) := ⟨rfl, rfl, rfl, by decide +kernel, rfl, by decide +kernel, by decide +kernel⟩
theorem ok_words {n : Nat} (D : Df K mg "words" sWords ["f"] f fd) (ms : mg "sum" = none) (I : Has P w K mg base 1 "inner_formulas" ["f"] (spInner K)) (G : Has P w K mg base (n + 1) "words" ["f"] (spWords K n)) : FnOk P w K mg base CX0 (n + 2) f fd ["f"] (spWords K (n + 1)) := by
  refine D.fn.ok scWords (fun vs H Q E h => ?_) (fun cdv A outer s H vs Q E hr h => ?_)
  · obtain ⟨v, g, rfl, _⟩ := h
    rfl
  obtain ⟨v, g, rfl, hd, hn, q⟩ := h
  have hr1 : Room 1 (A.deeper (envOfC "words" (defScope sWords) s.heap.objs.size f cdv)) := hr.mono (by omega)
  refine ⟨_, pss_one (ps_ret (pe_op op_add pe_int (pe_callB (cr_sum rfl) (by rfl) ms bt_sum (pa_cons (pe_lc (own := [("inner", 1)]) (g := gName 1) (tt := tYes) rfl scWords.nd (pi_tup (pe_callH I hr1 (by rfl) (pa_cons (pv 0) pa_nil)))
    (blkOk_by (N := ["f", "inner"]) (sc := defScope sWords) (by decide +kernel)) (fun _ _ _ _ _ => pg_name (i := 1) scWords.nd rfl (Or.inl rfl)) (fun _ _ _ _ _ => pts_nil)
    (fun _ _ _ _ _ => pe_callH G hr (by rfl) (pa_cons (pv 1) pa_nil))) pa_nil)))), ?_⟩
  refine ⟨v, rfl, v, g, rfl, hd, fun r H1 ks e1 hk hks => ⟨r, rfl, ⟨ks, hk⟩, fun L nL => ?_⟩⟩
  have hkl : ks.length = g.kids.length := by rw [dpAll_len hks, List.length_map]
  refine lc_map_tup (K := K) (a := r) (xs := ks) (ys := (g.kids.map fun k => (k.size : Int)).map V.int) (j := 1) hk nL (by rw [List.length_map, List.length_map, hkl]) (by rw [List.length_map, List.length_map]; exact sl1000 (Nat.le_trans (kids_len g) (by decide))) (fun i y b H' hi hb e2 Q' q' => ?_) (fun H' e2 hL => ?_)
  · obtain ⟨k, hk1, hy⟩ := kid_get hks hi
    have dl := kid_dep (List.mem_of_getElem? hk1)
    have eb : b = .int (k.size : Int) := by
      rw [List.getElem?_map, List.getElem?_map, hk1] at hb
      exact (Option.some.inj hb).symm
    refine ⟨y, rfl, y, k, rfl, dp_same e2 _ _ hy, by omega, fun H'' e3 => ?_⟩
    rw [← eb]
    exact q' H'' e3
  · refine ⟨L, _, rfl, SqL.of hL, 1, _, rfl, rfl, ?_⟩
    dsimp only
    rw [sum_sizes]
    exact q H' (e1.trans e2)
theorem all_words (D : Df K mg "words" sWords ["f"] f fd) (ms : mg "sum" = none) (I : Has P w K mg base 1 "inner_formulas" ["f"] (spInner K)) : ∀ n : Nat, Has P w K mg base (n + 1) "words" ["f"] (spWords K n)
  | 0 => by
    have no : ∀ vs H Q E, ¬ spWords K 0 vs H Q E := fun vs H Q E h => by
      obtain ⟨v, g, _, _, h2, _⟩ := h
      omega
    exact D.has ⟨fun vs H Q E h => absurd h (no vs H Q E), fun A outer s H args us vs Q E _ _ _ _ h => absurd h (no vs H Q E)⟩
  | n + 1 => D.has (ok_words D ms I (all_words D ms I n))
/-! ### is_claim -/
theorem scIsClaim : FnScope ["thing", "left", "right", "many", "f"] ["thing"] (defScope sIsClaim) := ⟨rfl, rfl, rfl, by decide +kernel, rfl, by decide +kernel, by decide +kernel⟩
theorem ok_isClaim {t : Tok} (D : Df K mg "is_claim" sIsClaim ["thing"] f fd) (B : Blt mg) (mw : mg "MOST_WORDS" = some (.int 60 t)) (IF : Has P w K mg base 16 "is_formula" ["thing"] (spIsFormula K)) (WO : Has P w K mg base 14 "words" ["f"] (spWords K 13)) : FnOk P w K mg base CX0 17 f fd ["thing"] (spIsClaim K) := by
  refine D.fn.ok scIsClaim (fun vs H Q E h => ?_) (fun cdv A outer s H vs Q E hr h => ?_)
  · obtain ⟨v, d, rfl, _⟩ := h
    rfl
  obtain ⟨v, d, rfl, hd, hsh, q0⟩ := h
  have q : ∀ (b : Bool) (H' : Hp), Same H H' → isC d = b → Q (.bl b) H' := fun b H' e h => h ▸ q0 H' e
  have r14 : Room 14 (A.deeper (envOfC "is_claim" (defScope sIsClaim) s.heap.objs.size f cdv)) := hr.mono (by decide)
  refine ⟨_, pss_cons (ps_if (PW.pt (pw_or (pt_not (pt_val (pe_callB call_isi (by rfl) B.isinstance bt_isinstance (pa_cons (pv 0) (pa_cons (pe_bltn (v := .ty "tuple") (by rfl) B.tuple bt_tuple rfl) pa_nil))))) (pw_or1 (pt_cmpR op_ne (pe_callB call_len_seq (by rfl) B.len PySem.boot_len (pa_cons (pv 0) pa_nil)) pe_int (nomark _))))) (pss_one (ps_ret pe_bl)) pss_nil)
    (pss_cons (ps_asg (pv 0) (pg_tup rfl (pgs_cons (pg_name (i := 1) scIsClaim.nd rfl (.inl rfl)) (pgs_cons (pg_name (i := 2) scIsClaim.nd rfl (.inl rfl)) pgs_nil))))
    (pss_cons (ps_if (PW.pt (pw_or (pt_not (pt_val (pe_callB call_isi (by rfl) B.isinstance bt_isinstance (pa_cons (pv 1) (pa_cons (pe_bltn (v := .ty "list") (by rfl) B.list bt_list rfl) pa_nil))))) (pw_or1 (pt_not (pt_val (pe_callB call_isi (by rfl) B.isinstance bt_isinstance (pa_cons (pv 2) (pa_cons (pe_bltn (v := .ty "list") (by rfl) B.list bt_list rfl) pa_nil)))))))) (pss_one (ps_ret pe_bl)) pss_nil)
    (pss_cons (ps_set (i := 3) scIsClaim.nd rfl (.inl rfl) pe_int)
    (pss_cons (ps_for PassesOwn.never rfl (pi_list (pe_op op_catL (pv 1) (pv 2))) (pg_name (i := 4) scIsClaim.nd rfl (.inl rfl))
      (pss_cons (ps_if (pt_not (pt_val (pe_callH IF (hr.mono (by decide)) (by rfl) (pa_cons (pv 4) pa_nil)))) (pss_one (ps_ret pe_bl)) pss_nil)
      (pss_cons (ps_aug (i := 3) scIsClaim.nd rfl (.inl rfl) (pe_callH WO r14 (by rfl) (pa_cons (pv 4) pa_nil)) ip_add)
      (pss_one (ps_if (pt_cmpR op_gt (pv 3) (pe_glob (v := .int 60) (by rfl) mw ⟨_, rfl⟩) (nomark _)) (pss_one (ps_ret pe_bl)) pss_nil)))))
    (pss_one (ps_ret pe_bl)))))), ?_⟩
  refine ⟨v, rfl, v, .ty "tuple", _, _, _, rfl, .ty "tuple", tyx_of hd, kit_tuple hd, isTu d, rfl, ?_⟩
  refine ite2 (fun c1 => ?_) (fun c1 => ?_)
  · refine q false H (Same.refl H) ?_
    cases d <;> first | rfl | exact (Bool.false_ne_true c1).elim
  cases hd with
  | tup hs ha =>
    rename_i a xs ds
    have hlen := dpAll_len ha
    refine ⟨.ref a, rfl, a, xs, rfl, .inr hs, rfl, _, rfl, ?_⟩
    refine ite2 (fun c2 => ?_) (fun c2 => ?_)
    · refine q false H (Same.refl H) ?_
      have ne : ¬ xs.length = 2 := fun e => by rw [e] at c2; exact absurd c2 (by decide)
      exact isC_len (by omega)
    · have e2 : xs.length = 2 := by
        by_cases z : xs.length = 2
        · exact z
        · exfalso
          apply c2
          have z' : ¬ V.int ((xs.length : Nat) : Int) = V.int 2 := fun y => z (by have := V.int.inj y; omega)
          show (!decide (V.int ((xs.length : Nat) : Int) = V.int 2)) = true
          rw [decide_eq_false z']
          rfl
      obtain ⟨x, y, rfl⟩ : ∃ x y, xs = [x, y] := by
        match xs, e2 with
        | [x, y], _ => exact ⟨x, y, rfl⟩
      cases ha with
      | cons hx ha =>
        cases ha with
        | cons hy ha =>
          cases ha
          rename_i dx dy
          refine ⟨.ref a, rfl, a, [x, y], rfl, hs, rfl, x, [y], rfl, y, [], rfl, rfl, ?_⟩
          refine ⟨x, rfl, x, .ty "list", _, _, _, rfl, .ty "list", tyx_of hx, kit_list hx, isLi dx, rfl, ?_⟩
          refine ite2 (fun c3 => ?_) (fun c3 => ?_)
          · refine q false H (Same.refl H) ?_
            cases dx <;> first | rfl | exact (Bool.false_ne_true c3).elim
          refine ⟨y, rfl, y, .ty "list", _, _, _, rfl, .ty "list", tyx_of hy, kit_list hy, isLi dy, rfl, ?_⟩
          refine ite2 (fun c4 => ?_) (fun c4 => ?_)
          · refine q false H (Same.refl H) ?_
            cases dx <;> first
              | rfl
              | (cases dy <;> first | rfl | exact (Bool.false_ne_true c4).elim)
          cases hx with
          | lst h1 a1 =>
            cases hy with
            | lst h2 a2 =>
              rename_i b1 zs1 ds1 b2 zs2 ds2
              have hsh : ds1.length + ds2.length ≤ 1000 := hsh
              have n1 := dpAll_len a1
              have n2 := dpAll_len a2
              refine ⟨.ref b1, rfl, .ref b2, rfl, b1, b2, zs1, zs2, rfl, rfl, h1, h2, sl1000 (by omega), fun p np => ?_⟩
              have s1 := same_new np (HO.lst (zs1 ++ zs2))
              have aa := dpAll_same s1 _ _ (dpAll_app a1 a2)
              refine ⟨p, rfl, ⟨_, SqL.of upd_same⟩, ?_⟩
              have whole : isC (.tuple [.list ds1, .list ds2]) = okL 0 (ds1 ++ ds2) := rfl
              refine for_list (K := K) (a := p) (xs := zs1 ++ zs2) (fun i σ H' => ∃ (m : Nat) (x4 : Option V), σ = [some (.ref a), some (.ref b1), some (.ref b2), some (.int (m : Int)), x4] ∧ Same (upd H p (.lst (zs1 ++ zs2))) H' ∧ okL 0 (ds1 ++ ds2) = okL m ((ds1 ++ ds2).drop i))
                ⟨0, none, rfl, Same.refl _, rfl⟩ (fun i σ H' _ ⟨_, _, _, e, _⟩ => SqL.of (e _ _ upd_same)) ?_ ?_
              · rintro i z σ H' hi ⟨m, x4, rfl, e1, hm⟩
                obtain ⟨dz, hdz, hz⟩ := dpAll_get aa hi
                have hz' := dp_same e1 _ _ hz
                have dr : (ds1 ++ ds2).drop i = dz :: (ds1 ++ ds2).drop (i + 1) := by
                  have lt := (List.getElem?_eq_some_iff.mp hdz).1
                  rw [List.drop_eq_getElem_cons lt]
                  have e := (List.getElem?_eq_some_iff.mp hdz).2
                  rw [e]
                rw [dr, okL] at hm
                refine ⟨z, rfl, z, dz, rfl, hz', fun H2 e2 => ⟨isF 12 dz, rfl, ?_⟩⟩
                cases c5 : isF 12 dz with
                | false =>
                  refine iteT (q false H2 (s1.trans (e1.trans e2)) ?_)
                  rw [whole, hm, c5]
                  rfl
                | true =>
                  refine iteF ?_
                  rw [c5, Bool.true_and] at hm
                  obtain ⟨g, rfl, g1, g2⟩ := isF_back 12 dz c5
                  rw [sizeD_fm] at hm
                  refine ⟨.int (m : Int), rfl, z, rfl, z, g, rfl, dp_same e2 _ _ hz', by omega, fun H3 e3 => ⟨(m : Int), (g.size : Int), rfl, rfl, ?_⟩⟩
                  refine ⟨_, rfl, (m : Int) + (g.size : Int), 60, rfl, rfl, _, rfl, ?_⟩
                  have eH := s1.trans (e1.trans (e2.trans e3))
                  refine ite2 (fun c6 => ?_) (fun c6 => ?_)
                  · have c6 : 60 < (m : Int) + (g.size : Int) := of_decide_eq_true c6
                    refine q false H3 eH ?_
                    rw [whole, hm, decide_eq_false (by omega), Bool.false_and]
                  · have c6 : ¬ 60 < (m : Int) + (g.size : Int) := fun z => c6 (decide_eq_true z)
                    rw [decide_eq_true (by omega), Bool.true_and] at hm
                    exact ⟨m + g.size, some z, rfl, e1.trans (e2.trans e3), hm⟩
              · rintro σ H' ⟨m, x4, rfl, e1, hm⟩
                refine q true H' (s1.trans e1) ?_
                rw [whole, hm, List.length_append, n1, n2, ← List.length_append, List.drop_length]
                rfl
            | _ => exact absurd rfl c4
          | _ => exact absurd rfl c3
  | _ => exact absurd rfl c1
end
end Lm
set_option Elab.async false
set_option linter.all false
set_option maxRecDepth 100000
set_option maxHeartbeats 400000
namespace Lm
open PySem PySem.Spec PyProof.Rows L2
theorem short_cD {L R : List Fm} (h : wordsS L + wordsS R ≤ 60) : short (cD L R) := by
  show (L.map Fm.toD).length + (R.map Fm.toD).length ≤ 1000
  rw [List.length_map, List.length_map]
  have := words_len L
  have := words_len R
  omega
theorem spell_same {L R : List Fm} (gl : Gd L) (gr : Gd R) : (∀ y, y ∈ L.map spS ↔ y ∈ R.map spS) ↔ SameF L R := by
  have one : ∀ {A B : List Fm}, Gd A → Gd B → (∀ y, y ∈ A.map spS ↔ y ∈ B.map spS) → ∀ f, f ∈ A → f ∈ B := fun {A B} ga gb h f hf => by
    obtain ⟨g, hg, e⟩ := List.mem_map.mp ((h (spS f)).1 (List.mem_map_of_mem hf))
    rw [← spS_inj (gb g hg).1 (ga f hf).1 e]
    exact hg
  constructor
  · exact fun h f => ⟨one gl gr h f, one gr gl (fun y => (h y).symm) f⟩
  · intro h y
    constructor
    · intro hy
      obtain ⟨f, hf, e⟩ := List.mem_map.mp hy
      exact List.mem_map.mpr ⟨f, (h f).1 hf, e⟩
    · intro hy
      obtain ⟨f, hf, e⟩ := List.mem_map.mp hy
      exact List.mem_map.mpr ⟨f, (h f).2 hf, e⟩
def spAlike (K : PySem.W.Frag) (C0 : Addr) : Sp := fun vs H Q E => ∃ (v u : V) (d e : PyData), vs = [v, u] ∧ Dp K H v d ∧ Dp K H u e ∧ short d ∧ short e ∧
  (isC d = true → isC e = true → ∀ L R L' R' : List Fm, d = cD L R → e = cD L' R' → Gd L → Gd R → Gd L' → Gd R' → ∀ (c : Bool) (H' : Hp), (c = true ↔ SameF L L' ∧ SameF R R') → Same H H' → Q (.bl c) H') ∧ ((isC d && isC e) = false → ∀ H', Same H H' → E (.ref C0) none H')
def spHolds (K : PySem.W.Frag) (C0 : Addr) : Sp := fun vs H Q E => ∃ (v : V) (d : PyData) (a : Addr) (ns : List Int), vs = [v, .ref a] ∧ Dp K H v d ∧ short d ∧ SqL K H a (ns.map V.int) ∧ ns.length ≤ 1000 ∧
  (isC d = true → ∀ L R : List Fm, d = cD L R → Gd L → Gd R → ∀ H', Same H H' → Q (.bl (!(L.all fun f => f.tr fun i => decide (i ∈ ns)) || R.any fun f => f.tr fun i => decide (i ∈ ns))) H') ∧ (isC d = false → ∀ H', Same H H' → E (.ref C0) none H')
theorem dp_claim {K : PySem.W.Frag} {H : Hp} {v : V} {L R : List Fm} (h : Dp K H v (cD L R)) : ∃ (a b c : Addr) (xs zs : List V), v = .ref a ∧ SqT K H a [.ref b, .ref c] ∧ SqL K H b xs ∧ SqL K H c zs ∧ DpAll K H xs (L.map Fm.toD) ∧ DpAll K H zs (R.map Fm.toD) := by
  have h : Dp K H v (.tuple [.list (L.map Fm.toD), .list (R.map Fm.toD)]) := h
  cases h with
  | tup hs ha =>
    cases ha with
    | cons hx ha =>
      cases ha with
      | cons hy ha =>
        cases ha
        cases hx with
        | lst h1 a1 =>
          cases hy with
          | lst h2 a2 => exact ⟨_, _, _, _, _, rfl, hs, h1, h2, a1, a2⟩
section
variable {P : Program} {w : World} {K : PySem.W.Frag} {mg : Str → Option Value} {base : Heap} {f : Addr} {fd : FuncData}
theorem scNoClaim : FnScope ["thing"] ["thing"] (defScope sNoClaim) := ⟨rfl, rfl, rfl, by decide +kernel, rfl, by decide +kernel, by decide +kernel⟩
theorem ok_noClaim {C0 : Addr} (D : Df K mg "refuse_no_claim" sNoClaim ["thing"] f fd) (G : Has P w K mg base 17 "is_claim" ["thing"] (spIsClaim K)) (B : ErrK K C0) (mB : mg "BadClaim" = some (.ref C0)) : FnOk P w K mg base (L2N.CX P w) 18 f fd ["thing"] (spNoClaim K C0) := by
  refine fun_okN D.fn scNoClaim (fun vs H Q E h => ?_) (fun cv A outer s H vs Q E hr h => ?_)
  · obtain ⟨v, d, rfl, _⟩ := h
    rfl
  obtain ⟨v, d, rfl, hd, hsh, q1, q2⟩ := h
  refine ⟨_, pss_one (ps_if (pt_not (pt_val (pe_callH G hr (by rfl) (pa_cons (pv 0) pa_nil)))) (pss_one (L2N.ps_raise rfl (L2N.takes_of rfl rfl rfl rfl) (L2N.pmk_own PySem.F.excBase_ValueError B.new mB B.kp (raises_own B.ex.hs B.ty) (by rfl)))) pss_nil), ?_⟩
  refine ⟨v, rfl, v, d, rfl, hd, hsh, fun H' e => ⟨isC d, rfl, ?_⟩⟩
  cases c : isC d with
  | true => exact iteF (q1 c H' e)
  | false => exact iteT (q2 c H' e)
theorem all_map (L : List Fm) (t : Fm → Bool) : (L.map t).all id = L.all t := by
  induction L with
  | nil => rfl
  | cons f L ih => rw [List.map_cons, List.all_cons, List.all_cons, ih]; rfl
theorem any_map (L : List Fm) (t : Fm → Bool) : (L.map t).any id = L.any t := by
  induction L with
  | nil => rfl
  | cons f L ih => rw [List.map_cons, List.any_cons, List.any_cons, ih]; rfl
end
end Lm
set_option Elab.async false
set_option linter.all false
set_option maxRecDepth 100000
set_option maxHeartbeats 400000
namespace Lm
open PySem PySem.Spec PyProof.Rows L2
/-- formulas as data -/
def lsD (L : List Fm) : PyData := .list (L.map Fm.toD)
/-- no deeper than data may be compared -/
def Sh (L : List Fm) : Prop := ∀ f ∈ L, f.dep ≤ 60
theorem Gd.sh {L : List Fm} (h : Gd L) : Sh L := fun f hf => Nat.le_trans (h f hf).2 (by decide)
theorem sh_once {L : List Fm} (h : Sh L) : Sh (once L) := fun f hf => h f (mem_once.mp hf)
theorem sh_take {L : List Fm} (h : Sh L) (n : Nat) : Sh (L.take n) := fun f hf => h f (List.mem_of_mem_take hf)
theorem sh_app {L R : List Fm} (h : Sh L) (k : Sh R) : Sh (L ++ R) := fun f hf => (List.mem_append.mp hf).elim (h f) (k f)
theorem sh_shaped {L : List Fm} (h : Sh L) : SeqAt.shaped (lsD L) = true := shaped_fms L fun f hf => Nat.le_trans (h f hf) (by decide)
theorem sh_fm {L : List Fm} (h : Sh L) {f : Fm} (hf : f ∈ L) : SeqAt.shaped f.toD = true := shaped_fm f (Nat.le_trans (h f hf) (by decide))
def gEach (ds es : List PyData) : Prop := ∃ L : List Fm, ds = [lsD L] ∧ Sh L ∧ L.length ≤ 1000 ∧ es = (once L).map Fm.toD
theorem once_take {L : List Fm} {i : Nat} {x : Fm} (h : L[i]? = some x) : once (L.take (i + 1)) = if x ∈ once (L.take i) then once (L.take i) else once (L.take i) ++ [x] := by
  rw [List.take_succ, h, Option.toList_some]
  unfold once
  rw [onceA_app]
  rfl
section
variable {P : Program} {w : World} {K : PySem.W.Frag} {mg : Str → Option Value} {base : Heap} {f : Addr} {fd : FuncData}
theorem scEachOnce : FnScope ["side", "told", "f"] ["side"] (defScope sEachOnce) := ⟨rfl, rfl, rfl, by decide +kernel, rfl, by decide +kernel, by decide +kernel⟩
theorem ok_eachOnce (D : Df K mg "each_once" sEachOnce ["side"] f fd) : FnOk P w K mg base CX0 1 f fd ["side"] (spOwn K 1 gEach) := by
  refine ok_own D scEachOnce fun cdv A outer s H E hr => ?_
  have hu : (A.deeper (envOfC "each_once" (defScope sEachOnce) s.heap.objs.size f cdv)).units + 65 < cLine := by have := hr.un; omega
  refine ⟨_, (pss_cons (ps_set (i := 1) scEachOnce.nd rfl (by first | exact Or.inl rfl | exact Or.inr rfl) (pe_lst pa_nil))
    (pss_cons (ps_for PassesOwn.never rfl (pi_list (pv 0)) (pg_name (i := 2) scEachOnce.nd rfl (by first | exact Or.inl rfl | exact Or.inr rfl)) (pss_one (ps_if (pt_cmpR (r := rNotInD K) (op_notInD hu) (pv 2) (pv 1) (by rfl)) (pss_one (ps_expr (pe_bm PySem.F.plainAttrs_list PySem.F.slot_list_append PySem.F.type_list_append mt_append (pv 1) (pa_cons (pv 2) pa_nil)))) pss_nil)))
    (pss_one (ps_ret (pv 1))))), ?_⟩
  rintro ds es hl ⟨L, rfl, hs, hn, rfl⟩
  refine puo_new (ds := []) pu_nil (by decide) ?_
  refine puo_seq (ρ' := [some (.d (lsD L)), some (.o ((once L).map Fm.toD)), none]) ?_ (puo_retO rfl)
  refine puo_for (xs := L) (td := Fm.toD) (k := L.length) (fun i => [some (.d (lsD L)), some (.o ((once (L.take i)).map Fm.toD)), none]) (pui_list (pu_var rfl)) rfl (Nat.le_refl _) (fun i x _ hx => ⟨_, pgo_name 2, .inl ?_⟩) (.inl ⟨rfl, by rw [List.take_length]⟩)
  have len := Nat.le_trans (once_len (L.take i)) (by rw [List.length_take]; omega : (L.take i).length ≤ 1000)
  refine puo_forget (ρ' := [some (.d (lsD L)), some (.o ((once (L.take (i + 1))).map Fm.toD)), some (.d x.toD)]) 2 ?_
  refine puo_if (pu_tTest (pu_notInD (d := x.toD) (ds := (once (L.take i)).map Fm.toD) (pu_var rfl) (pu_var rfl) (sh_fm hs (List.mem_of_getElem? hx)) (sh_shaped (sh_once (sh_take hs i))))) (fun c => ?_) (fun c => ?_)
  · rw [any_fm] at c
    have c : ¬ x ∈ once (L.take i) := by simpa using c
    rw [once_take hx, if_neg c, List.map_append]
    exact puo_append (i := 1) rfl (by rw [List.length_map]; omega) (pu_var rfl)
  · rw [any_fm] at c
    have c : x ∈ once (L.take i) := by simpa using c
    rw [once_take hx, if_pos c]
    exact puo_next
/-! ### claims told once, side in side -/
theorem scAllIn : FnScope ["some", "side", "f"] ["some", "side"] (defScope sAllIn) := ⟨rfl, rfl, rfl, by decide +kernel, rfl, by decide +kernel, by decide +kernel⟩
def gAllIn (ds : List PyData) (d : PyData) : Prop := ∃ L R : List Fm, ds = [lsD L, lsD R] ∧ Sh L ∧ Sh R ∧ L.length ≤ 1000 ∧ d = .bool (decide (∀ f ∈ L, f ∈ R))
theorem all_dec (L : List Fm) (p : Fm → Bool) : (L.map p).all id = decide (∀ f ∈ L, p f = true) := by
  rw [Bool.eq_iff_iff, decide_eq_true_eq, List.all_map, List.all_eq_true]
  exact Iff.rfl
theorem ok_allIn (D : Df K mg "_all_stand_in" sAllIn ["some", "side"] f fd) (B : Blt mg) : FnOk P w K mg base CX0 1 f fd ["some", "side"] (spPu K 2 gAllIn) := by
  refine ok_pu D scAllIn fun cdv A outer s H E hr => ?_
  have hu : (A.deeper (envOfC "_all_stand_in" (defScope sAllIn) s.heap.objs.size f cdv)).units + 65 < cLine := by have := hr.un; omega
  refine ⟨_, (pss_one (ps_ret (pe_callB (r := rAll K) (cr_all rfl) (by rfl) B.all bt_all (pa_cons (pe_lc (own := [("f", 2)]) (g := gName 2) (tt := tYes) rfl scAllIn.nd (pi_list (pv 0)) (blkOk_by (N := ["some", "side", "f"]) (sc := defScope sAllIn) (by decide +kernel)) (fun _ _ _ _ _ => (pg_name (i := 2) scAllIn.nd rfl (by first | exact Or.inl rfl | exact Or.inr rfl))) (fun _ _ _ _ _ => pts_nil) (fun _ _ _ _ _ => (pe_cmpR (r := rInD K) (op_inD hu) (pv 2) (pv 1) (by rfl)))) pa_nil)))), ?_⟩
  rintro ds d hl ⟨L, R, rfl, hs, hr, hn, rfl⟩
  refine .inl (pus_ret ?_)
  have e : decide (∀ f ∈ L, f ∈ R) = (L.map fun f => decide (f ∈ R)).all id := by
    rw [all_dec]
    exact decide_eq_decide.mpr ⟨fun h f hf => decide_eq_true (h f hf), fun h f hf => of_decide_eq_true (h f hf)⟩
  rw [e]
  refine pu_all ?_
  rw [List.map_map]
  refine pu_map (xs := L) (td := Fm.toD) (pui_list (pu_var rfl)) (by omega) _ fun x hx => ?_
  refine (pu_inD (d := x.toD) (ds := R.map Fm.toD) (pu_var rfl) (pu_var rfl) (sh_fm hs hx) (sh_shaped hr)).cast ?_
  rw [any_fm]
  rfl
theorem scStandsIn : FnScope ["one", "other"] ["one", "other"] (defScope sStandsIn) := ⟨rfl, rfl, rfl, by decide +kernel, rfl, by decide +kernel, by decide +kernel⟩
/-- a claim, of no more than so many, nor too deep -/
def LowC (c : Cl) : Prop := Sh c.1 ∧ Sh c.2 ∧ c.1.length ≤ 1000 ∧ c.2.length ≤ 1000
def gStandsIn (ds : List PyData) (d : PyData) : Prop := ∃ a b : Cl, ds = [a.toD, b.toD] ∧ LowC a ∧ LowC b ∧ d = .bool (decide (Sub a b))
theorem cix0 (a : Cl) : atI [lsD a.1, lsD a.2] 0 = some (lsD a.1) := atI_nat (j := 0) rfl
theorem cix1 (a : Cl) : atI [lsD a.1, lsD a.2] 1 = some (lsD a.2) := atI_nat (j := 1) rfl
theorem pu_cl {te : TE} {ρ : Rho} {a : Cl} (h : PuE K te ρ a.toD) : PuE K te ρ (.tuple [lsD a.1, lsD a.2]) := h
theorem ok_standsIn (D : Df K mg "stands_in" sStandsIn ["one", "other"] f fd) (h_all_stand_in : Has P w K mg base 1 "_all_stand_in" ["some", "side"] (spPu K 2 gAllIn)) : FnOk P w K mg base CX0 2 f fd ["one", "other"] (spPu K 2 gStandsIn) := by
  refine ok_pu D scStandsIn fun cdv A outer s H E hr => ?_
  refine ⟨_, (pss_one (ps_ret (pe_and (pe_callH h_all_stand_in (hr.mono (by omega)) (by rfl) (pa_cons (pe_ix (r := rIxT K) ix_tup (pv 0) pe_int (fun _ _ => rfl)) (pa_cons (pe_ix (r := rIxT K) ix_tup (pv 1) pe_int (fun _ _ => rfl)) pa_nil))) (pe_one (pe_callH h_all_stand_in (hr.mono (by omega)) (by rfl) (pa_cons (pe_ix (r := rIxT K) ix_tup (pv 0) pe_int (fun _ _ => rfl)) (pa_cons (pe_ix (r := rIxT K) ix_tup (pv 1) pe_int (fun _ _ => rfl)) pa_nil))))))), ?_⟩
  rintro ds d hl ⟨a, b, rfl, ha, hb, rfl⟩
  refine .inl (pus_ret ?_)
  have e : decide (Sub a b) = (decide (∀ f ∈ a.1, f ∈ b.1) && decide (∀ f ∈ a.2, f ∈ b.2)) := by
    rw [← Bool.decide_and]
    exact decide_eq_decide.mpr Iff.rfl
  rw [e]
  have va : PuE K (tVar 0) (startD ["one", "other"] [a.toD, b.toD]) (.tuple [lsD a.1, lsD a.2]) := pu_var rfl
  have vb : PuE K (tVar 1) (startD ["one", "other"] [a.toD, b.toD]) (.tuple [lsD b.1, lsD b.2]) := pu_var rfl
  exact pu_and (pu_call (pu_cons (pu_ixT va (pu_int 0) (cix0 a)) (pu_cons (pu_ixT vb (pu_int 0) (cix0 b)) pu_nil)) rfl ⟨a.1, b.1, rfl, ha.1, hb.1, ha.2.2.1, rfl⟩)
    fun _ => pu_call (pu_cons (pu_ixT va (pu_int 1) (cix1 a)) (pu_cons (pu_ixT vb (pu_int 1) (cix1 b)) pu_nil)) rfl ⟨a.2, b.2, rfl, ha.2.1, hb.2.1, ha.2.2.2, rfl⟩
/-- a claim of new lists -/
def NewCl (K : PySem.W.Frag) (H0 H : Hp) (v : V) (c : Cl) : Prop := ∃ (t a b : Addr) (xs ys : List V), v = .ref t ∧ SqT K H t [.ref a, .ref b] ∧ H0 a = none ∧ H0 b = none ∧ H a = some (.lst xs) ∧ H b = some (.lst ys) ∧ DpAll K H xs (c.1.map Fm.toD) ∧ DpAll K H ys (c.2.map Fm.toD)
theorem NewCl.same {H0 H H' : Hp} {v : V} {c : Cl} (h : NewCl K H0 H v c) (e : Same H H') : NewCl K H0 H' v c := by
  obtain ⟨t, a, b, xs, ys, h1, h2, h3, h4, h5, h6, h7, h8⟩ := h
  exact ⟨t, a, b, xs, ys, h1, sqT_same e h2, h3, h4, e _ _ h5, e _ _ h6, dpAll_same e _ _ h7, dpAll_same e _ _ h8⟩
theorem NewCl.older {H00 H0 H : Hp} {v : V} {c : Cl} (h : NewCl K H0 H v c) (e : Same H00 H0) : NewCl K H00 H v c := by
  have old : ∀ p, H0 p = none → H00 p = none := fun p n => by
    cases z : H00 p with
    | none => rfl
    | some u => rw [e _ _ z] at n; cases n
  obtain ⟨t, a, b, xs, ys, h1, h2, h3, h4, h5⟩ := h
  exact ⟨t, a, b, xs, ys, h1, h2, old a h3, old b h4, h5⟩
theorem NewCl.vis {M : Addr → Bool} {H0 H : Hp} {v : V} {c : Cl} (hid : Hid M H0) (e : Same H0 H) (h : NewCl K H0 H v c) : Dp K (Lm.vis M H) v c.toD := by
  obtain ⟨t, a, b, xs, ys, rfl, h2, h3, h4, h5, h6, h7, h8⟩ := h
  have tk := (hid.same e).tk (K := K)
  have va : Lm.vis M H a = some (.lst xs) := by
    unfold Lm.vis
    rw [hid.non h3, if_neg Bool.false_ne_true]
    exact h5
  have vb : Lm.vis M H b = some (.lst ys) := by
    unfold Lm.vis
    rw [hid.non h4, if_neg Bool.false_ne_true]
    exact h6
  exact .tup (tk _ _ h2) (.cons (.lst (SqL.of va) (fms_keep tk _ _ h7)) (.cons (.lst (SqL.of vb) (fms_keep tk _ _ h8)) .nil))
theorem NewCl.dp {H0 H : Hp} {v : V} {c : Cl} (h : NewCl K H0 H v c) : Dp K H v c.toD := by
  obtain ⟨t, a, b, xs, ys, rfl, h2, h3, h4, h5, h6, h7, h8⟩ := h
  exact .tup h2 (.cons (.lst (SqL.of h5) h7) (.cons (.lst (SqL.of h6) h8) .nil))
def spToldOnce (K : PySem.W.Frag) : Sp := fun vs H Q _ => ∃ (v : V) (c : Cl), vs = [v] ∧ Dp K H v c.toD ∧ LowC c ∧ ∀ v' H', Same H H' → NewCl K H H' v' (once c.1, once c.2) → Q v' H'
/-- as each_once is called from elsewhere -/
theorem each_at {M : Addr → Bool} {H : Hp} {a : Addr} {xs : List V} {L : List Fm} {Q : VK} (hid : Hid M H) (ha : SqL K (Lm.vis M H) a xs) (hx : DpAll K (Lm.vis M H) xs (L.map Fm.toD)) (hs : Sh L) (hn : L.length ≤ 1000)
    (q : ∀ p ys H', Same H H' → H p = none → H' p = some (.lst ys) → DpAll K H' ys ((once L).map Fm.toD) → Q (.ref p) H') : spOwn K 1 gEach [.ref a] H Q E0 := by
  refine ⟨M, [lsD L], _, hid, rfl, .cons (.lst ha hx) .nil, ⟨L, rfl, hs, hn, rfl⟩, fun p ys H' e n hp hy => q p ys H' e n hp (dpAll_same vis_sub _ _ hy)⟩
theorem each_at0 {H : Hp} {a : Addr} {xs : List V} {L : List Fm} {Q : VK} (ha : SqL K H a xs) (hx : DpAll K H xs (L.map Fm.toD)) (hs : Sh L) (hn : L.length ≤ 1000)
    (q : ∀ p ys H', Same H H' → H p = none → H' p = some (.lst ys) → DpAll K H' ys ((once L).map Fm.toD) → Q (.ref p) H') : spOwn K 1 gEach [.ref a] H Q E0 :=
  each_at (M := fun _ => false) Hid.none (by rw [vis_none]; exact ha) (by rw [vis_none]; exact hx) hs hn q
theorem scToldOnce : FnScope ["claim", "left", "right"] ["claim"] (defScope sToldOnce) := ⟨rfl, rfl, rfl, by decide +kernel, rfl, by decide +kernel, by decide +kernel⟩
theorem ok_toldOnce (D : Df K mg "told_once" sToldOnce ["claim"] f fd) (h_each_once : Has P w K mg base 1 "each_once" ["side"] (spOwn K 1 gEach)) : FnOk P w K mg base CX0 2 f fd ["claim"] (spToldOnce K) := by
  refine D.fn.ok scToldOnce (fun vs H Q E h => ?_) (fun cdv A outer s H vs Q E hr h => ?_)
  · obtain ⟨v, c, rfl, _⟩ := h
    rfl
  obtain ⟨v, c, rfl, hd, hc, q⟩ := h
  refine ⟨_, (pss_cons (ps_asg (pv 0) (pg_tup rfl (pgs_cons (pg_name (i := 1) scToldOnce.nd rfl (by first | exact Or.inl rfl | exact Or.inr rfl)) (pgs_cons (pg_name (i := 2) scToldOnce.nd rfl (by first | exact Or.inl rfl | exact Or.inr rfl)) pgs_nil))))
    (pss_one (ps_ret (pe_tup (pa_cons (pe_callH h_each_once (hr.mono (by omega)) (by rfl) (pa_cons (pv 1) pa_nil)) (pa_cons (pe_callH h_each_once (hr.mono (by omega)) (by rfl) (pa_cons (pv 2) pa_nil)) pa_nil)))))), ?_⟩
  obtain ⟨a, b, c', xs, zs, rfl, ht, hb, hc', db, dc⟩ := dp_claim hd
  refine ⟨.ref a, rfl, a, _, rfl, ht, rfl, .ref b, _, rfl, .ref c', _, rfl, rfl, ?_⟩
  refine ⟨.ref b, rfl, ?_⟩
  dsimp only [tCons, tCall, tNil]
  show spOwn K 1 gEach [.ref b] H _ E0
  refine each_at0 hb db hc.1 hc.2.2.1 fun p ys H1 e1 np hp hy => ?_
  refine ⟨.ref c', rfl, ?_⟩
  dsimp only [tCons, tCall, tNil]
  show spOwn K 1 gEach [.ref c'] H1 _ E0
  refine each_at0 (e1.seq hc') (dpAll_same e1 _ _ dc) hc.2.1 hc.2.2.2 fun p2 ys2 H2 e2 np2 hp2 hy2 => ?_
  refine ⟨sl1000 (by show 2 ≤ 100000; decide), fun t nt => ?_⟩
  have s3 := same_new nt (HO.tup [V.ref p, V.ref p2])
  have n2 : H p2 = none := by
    cases z : H p2 with
    | none => rfl
    | some u => rw [e1 _ _ z] at np2; cases np2
  exact q (.ref t) _ (e1.trans (e2.trans s3)) ⟨t, p, p2, ys, ys2, rfl, SqT.of upd_same, np, n2, s3 _ _ (e2 _ _ hp), s3 _ _ hp2, dpAll_same (e2.trans s3) _ _ hy, dpAll_same s3 _ _ hy2⟩
end
end Lm
set_option Elab.async false
set_option linter.all false
set_option maxRecDepth 100000
set_option maxHeartbeats 400000
namespace Lm
open PySem PySem.Spec PyProof.Rows L2
theorem tix0 (a b : PyData) (ds : List PyData) : atI (a :: b :: ds) 0 = some a := atI_nat (j := 0) rfl
theorem tix1 (a b : PyData) (ds : List PyData) : atI (a :: b :: ds) 1 = some b := atI_nat (j := 1) rfl
theorem tix2 (a b c : PyData) (ds : List PyData) : atI (a :: b :: c :: ds) 2 = some c := atI_nat (j := 2) rfl
def gPutL (ds : List PyData) (d : PyData) : Prop := ∃ f : Fm, ds = [f.toD] ∧ f.isSg = false ∧ d = .list ((putL f).map Cl.toD)
def gPutR (ds : List PyData) (d : PyData) : Prop := ∃ f : Fm, ds = [f.toD] ∧ f.isSg = false ∧ d = .list ((putR f).map Cl.toD)
def gPut (ds : List PyData) (d : PyData) : Prop := ∃ (w : Wd) (f : Fm), ds = [(Ru.fm w f).toD] ∧ ((w = .left ∨ w = .right) → f.isSg = false) ∧ d = .list ((putIn w f).map Cl.toD)
theorem w_oa : ¬ Bw.o.txt = ("and" : Str) := by decide +kernel
theorem w_ta : ¬ Bw.th.txt = ("and" : Str) := by decide +kernel
theorem w_to : ¬ Bw.th.txt = ("or" : Str) := by decide +kernel
section
variable {K : PySem.W.Frag} {ρ : Rho} {te : TE} {f g h : Fm} {w : Bw} {i : Nat}
theorem pu_l0 : PuE K (tLst tNil) ρ (lsD []) := pu_lst pu_nil (by simp)
theorem pu_l1 (k : PuE K te ρ f.toD) : PuE K (tLst (tCons te tNil)) ρ (lsD [f]) := pu_lst (pu_cons k pu_nil) (by simp)
theorem pu_l2 {tf : TE} (k : PuE K te ρ f.toD) (l : PuE K tf ρ g.toD) : PuE K (tLst (tCons te (tCons tf tNil))) ρ (lsD [f, g]) := pu_lst (pu_cons k (pu_cons l pu_nil)) (by simp)
theorem pu_c {ta tb : TE} {L R : List Fm} (k : PuE K ta ρ (lsD L)) (l : PuE K tb ρ (lsD R)) : PuE K (tTup (tCons ta (tCons tb tNil))) ρ (Cl.toD (L, R)) := pu_tup (pu_cons k (pu_cons l pu_nil)) (by simp)
theorem pu_cs1 {c : Cl} (k : PuE K te ρ c.toD) : PuE K (tLst (tCons te tNil)) ρ (.list ([c].map Cl.toD)) := pu_lst (pu_cons k pu_nil) (by simp)
theorem pu_cs2 {c d : Cl} {tf : TE} (k : PuE K te ρ c.toD) (l : PuE K tf ρ d.toD) : PuE K (tLst (tCons te (tCons tf tNil))) ρ (.list ([c, d].map Cl.toD)) := pu_lst (pu_cons k (pu_cons l pu_nil)) (by simp)
/-- f[1], f[2] of a formula in slot i -/
theorem pu_no1 (k : ρ[i]? = some (some (Fm.no g).toD)) : PuE K (tOp (rIxT K) (tVar i) (tC (.int 1))) ρ g.toD := pu_ixT (ds := [.str ("not" : Str), g.toD]) (pu_var k) (pu_int 1) (tix1 _ _ _)
theorem pu_bi1 (k : ρ[i]? = some (some (Fm.bi w g h).toD)) : PuE K (tOp (rIxT K) (tVar i) (tC (.int 1))) ρ g.toD := pu_ixT (ds := [.str w.txt, g.toD, h.toD]) (pu_var k) (pu_int 1) (tix1 _ _ _)
theorem pu_bi2 (k : ρ[i]? = some (some (Fm.bi w g h).toD)) : PuE K (tOp (rIxT K) (tVar i) (tC (.int 2))) ρ h.toD := pu_ixT (ds := [.str w.txt, g.toD, h.toD]) (pu_var k) (pu_int 2) (tix2 _ _ _ _)
/-- its word -/
def Fm.wd : Fm → Str
  | .sg _ => "sign"
  | .no _ => "not"
  | .bi w _ _ => w.txt
theorem pu_fm0 (k : ρ[i]? = some (some f.toD)) : PuE K (tOp (rIxT K) (tVar i) (tC (.int 0))) ρ (.str f.wd) := by
  cases f with
  | sg j => exact pu_ixT (ds := [.str ("sign" : Str), .int j]) (pu_var k) (pu_int 0) (tix0 _ _ _)
  | no g => exact pu_ixT (ds := [.str ("not" : Str), g.toD]) (pu_var k) (pu_int 0) (tix0 _ _ _)
  | bi w g h => exact pu_ixT (ds := [.str w.txt, g.toD, h.toD]) (pu_var k) (pu_int 0) (tix0 _ _ _)
theorem wd_sg (f : Fm) : decide (f.wd = ("sign" : Str)) = f.isSg := by
  cases f with
  | sg j => exact decide_eq_true rfl
  | no g => exact decide_eq_false (by show ¬ ("not" : Str) = ("sign" : Str); decide +kernel)
  | bi w g h => exact decide_eq_false (txt_sign w)
end
section
variable {P : Program} {w : World} {K : PySem.W.Frag} {mg : Str → Option Value} {base : Heap} {f : Addr} {fd : FuncData}
theorem scPutL : FnScope ["f", "word"] ["f"] (defScope sPutL) := ⟨rfl, rfl, rfl, by decide +kernel, rfl, by decide +kernel, by decide +kernel⟩
theorem ok_putL (D : Df K mg "_put_in_by_left" sPutL ["f"] f fd) : FnOk P w K mg base CX0 1 f fd ["f"] (spPu K 1 gPutL) := by
  refine ok_pu D scPutL fun cdv A outer s H E hr => ?_
  refine ⟨_, (pss_cons (ps_set (i := 1) scPutL.nd rfl (by first | exact Or.inl rfl | exact Or.inr rfl) (pe_ix (r := rIxT K) ix_tup (pv 0) pe_int (fun _ _ => rfl)))
    (pss_cons (ps_if (pt_cmpR op_eq (pv 1) pe_str (nomark _)) (pss_one (ps_ret (pe_lst (pa_cons (pe_tup (pa_cons (pe_lst pa_nil) (pa_cons (pe_lst (pa_cons (pe_ix (r := rIxT K) ix_tup (pv 0) pe_int (fun _ _ => rfl)) pa_nil)) pa_nil))) pa_nil)))) pss_nil)
    (pss_cons (ps_if (pt_cmpR op_eq (pv 1) pe_str (nomark _)) (pss_one (ps_ret (pe_lst (pa_cons (pe_tup (pa_cons (pe_lst (pa_cons (pe_ix (r := rIxT K) ix_tup (pv 0) pe_int (fun _ _ => rfl)) (pa_cons (pe_ix (r := rIxT K) ix_tup (pv 0) pe_int (fun _ _ => rfl)) pa_nil))) (pa_cons (pe_lst pa_nil) pa_nil))) pa_nil)))) pss_nil)
    (pss_cons (ps_if (pt_cmpR op_eq (pv 1) pe_str (nomark _)) (pss_one (ps_ret (pe_lst (pa_cons (pe_tup (pa_cons (pe_lst (pa_cons (pe_ix (r := rIxT K) ix_tup (pv 0) pe_int (fun _ _ => rfl)) pa_nil)) (pa_cons (pe_lst pa_nil) pa_nil))) (pa_cons (pe_tup (pa_cons (pe_lst (pa_cons (pe_ix (r := rIxT K) ix_tup (pv 0) pe_int (fun _ _ => rfl)) pa_nil)) (pa_cons (pe_lst pa_nil) pa_nil))) pa_nil))))) pss_nil)
    (pss_one (ps_ret (pe_lst (pa_cons (pe_tup (pa_cons (pe_lst pa_nil) (pa_cons (pe_lst (pa_cons (pe_ix (r := rIxT K) ix_tup (pv 0) pe_int (fun _ _ => rfl)) pa_nil)) pa_nil))) (pa_cons (pe_tup (pa_cons (pe_lst (pa_cons (pe_ix (r := rIxT K) ix_tup (pv 0) pe_int (fun _ _ => rfl)) pa_nil)) (pa_cons (pe_lst pa_nil) pa_nil))) pa_nil))))))))), ?_⟩
  rintro ds d hl ⟨g, rfl, hs, rfl⟩
  left
  cases g with
  | sg i => cases hs
  | no g =>
    refine pus_set (pu_fm0 (f := .no g) rfl) (pus_take (pu_eqS1 (pu_var rfl) (pu_str _) rfl) (pus_ret ?_))
    exact pu_cs1 (pu_c pu_l0 (pu_l1 (pu_no1 rfl)))
  | bi b g h =>
    refine pus_set (pu_fm0 (f := .bi b g h) rfl) (pus_skip (pu_eqS0 (pu_var rfl) (pu_str _) (txt_not b)) ?_)
    cases b with
    | an => exact pus_take (pu_eqS1 (pu_var rfl) (pu_str _) rfl) (pus_ret (pu_cs1 (pu_c (pu_l2 (pu_bi1 (w := .an) rfl) (pu_bi2 (w := .an) rfl)) pu_l0)))
    | o => exact pus_skip (pu_eqS0 (pu_var rfl) (pu_str _) w_oa) (pus_take (pu_eqS1 (pu_var rfl) (pu_str _) rfl) (pus_ret (pu_cs2 (pu_c (pu_l1 (pu_bi1 (w := .o) rfl)) pu_l0) (pu_c (pu_l1 (pu_bi2 (w := .o) rfl)) pu_l0))))
    | th => exact pus_skip (pu_eqS0 (pu_var rfl) (pu_str _) w_ta) (pus_skip (pu_eqS0 (pu_var rfl) (pu_str _) w_to) (pus_ret (pu_cs2 (pu_c pu_l0 (pu_l1 (pu_bi1 (w := .th) rfl))) (pu_c (pu_l1 (pu_bi2 (w := .th) rfl)) pu_l0))))
theorem scPutR : FnScope ["f", "word"] ["f"] (defScope sPutR) := ⟨rfl, rfl, rfl, by decide +kernel, rfl, by decide +kernel, by decide +kernel⟩
theorem ok_putR (D : Df K mg "_put_in_by_right" sPutR ["f"] f fd) : FnOk P w K mg base CX0 1 f fd ["f"] (spPu K 1 gPutR) := by
  refine ok_pu D scPutR fun cdv A outer s H E hr => ?_
  refine ⟨_, (pss_cons (ps_set (i := 1) scPutR.nd rfl (by first | exact Or.inl rfl | exact Or.inr rfl) (pe_ix (r := rIxT K) ix_tup (pv 0) pe_int (fun _ _ => rfl)))
    (pss_cons (ps_if (pt_cmpR op_eq (pv 1) pe_str (nomark _)) (pss_one (ps_ret (pe_lst (pa_cons (pe_tup (pa_cons (pe_lst (pa_cons (pe_ix (r := rIxT K) ix_tup (pv 0) pe_int (fun _ _ => rfl)) pa_nil)) (pa_cons (pe_lst pa_nil) pa_nil))) pa_nil)))) pss_nil)
    (pss_cons (ps_if (pt_cmpR op_eq (pv 1) pe_str (nomark _)) (pss_one (ps_ret (pe_lst (pa_cons (pe_tup (pa_cons (pe_lst pa_nil) (pa_cons (pe_lst (pa_cons (pe_ix (r := rIxT K) ix_tup (pv 0) pe_int (fun _ _ => rfl)) pa_nil)) pa_nil))) (pa_cons (pe_tup (pa_cons (pe_lst pa_nil) (pa_cons (pe_lst (pa_cons (pe_ix (r := rIxT K) ix_tup (pv 0) pe_int (fun _ _ => rfl)) pa_nil)) pa_nil))) pa_nil))))) pss_nil)
    (pss_cons (ps_if (pt_cmpR op_eq (pv 1) pe_str (nomark _)) (pss_one (ps_ret (pe_lst (pa_cons (pe_tup (pa_cons (pe_lst pa_nil) (pa_cons (pe_lst (pa_cons (pe_ix (r := rIxT K) ix_tup (pv 0) pe_int (fun _ _ => rfl)) (pa_cons (pe_ix (r := rIxT K) ix_tup (pv 0) pe_int (fun _ _ => rfl)) pa_nil))) pa_nil))) pa_nil)))) pss_nil)
    (pss_one (ps_ret (pe_lst (pa_cons (pe_tup (pa_cons (pe_lst (pa_cons (pe_ix (r := rIxT K) ix_tup (pv 0) pe_int (fun _ _ => rfl)) pa_nil)) (pa_cons (pe_lst (pa_cons (pe_ix (r := rIxT K) ix_tup (pv 0) pe_int (fun _ _ => rfl)) pa_nil)) pa_nil))) pa_nil)))))))), ?_⟩
  rintro ds d hl ⟨g, rfl, hs, rfl⟩
  left
  cases g with
  | sg i => cases hs
  | no g =>
    refine pus_set (pu_fm0 (f := .no g) rfl) (pus_take (pu_eqS1 (pu_var rfl) (pu_str _) rfl) (pus_ret ?_))
    exact pu_cs1 (pu_c (pu_l1 (pu_no1 rfl)) pu_l0)
  | bi b g h =>
    refine pus_set (pu_fm0 (f := .bi b g h) rfl) (pus_skip (pu_eqS0 (pu_var rfl) (pu_str _) (txt_not b)) ?_)
    cases b with
    | an => exact pus_take (pu_eqS1 (pu_var rfl) (pu_str _) rfl) (pus_ret (pu_cs2 (pu_c pu_l0 (pu_l1 (pu_bi1 (w := .an) rfl))) (pu_c pu_l0 (pu_l1 (pu_bi2 (w := .an) rfl)))))
    | o => exact pus_skip (pu_eqS0 (pu_var rfl) (pu_str _) w_oa) (pus_take (pu_eqS1 (pu_var rfl) (pu_str _) rfl) (pus_ret (pu_cs1 (pu_c pu_l0 (pu_l2 (pu_bi1 (w := .o) rfl) (pu_bi2 (w := .o) rfl))))))
    | th => exact pus_skip (pu_eqS0 (pu_var rfl) (pu_str _) w_ta) (pus_skip (pu_eqS0 (pu_var rfl) (pu_str _) w_to) (pus_ret (pu_cs1 (pu_c (pu_l1 (pu_bi1 (w := .th) rfl)) (pu_l1 (pu_bi2 (w := .th) rfl))))))
theorem scPutIn : FnScope ["rule", "word", "f"] ["rule"] (defScope sPutIn) := ⟨rfl, rfl, rfl, by decide +kernel, rfl, by decide +kernel, by decide +kernel⟩
theorem ok_putIn (D : Df K mg "put_in" sPutIn ["rule"] f fd) (h_put_in_by_left : Has P w K mg base 1 "_put_in_by_left" ["f"] (spPu K 1 gPutL)) (h_put_in_by_right : Has P w K mg base 1 "_put_in_by_right" ["f"] (spPu K 1 gPutR)) : FnOk P w K mg base CX0 2 f fd ["rule"] (spPu K 1 gPut) := by
  refine ok_pu D scPutIn fun cdv A outer s H E hr => ?_
  refine ⟨_, (pss_cons (ps_asg (pv 0) (pg_tup rfl (pgs_cons (pg_name (i := 1) scPutIn.nd rfl (by first | exact Or.inl rfl | exact Or.inr rfl)) (pgs_cons (pg_name (i := 2) scPutIn.nd rfl (by first | exact Or.inl rfl | exact Or.inr rfl)) pgs_nil))))
    (pss_cons (ps_if (pt_cmpR op_eq (pv 1) pe_str (nomark _)) (pss_one (ps_ret (pe_callH h_put_in_by_left (hr.mono (by omega)) (by rfl) (pa_cons (pv 2) pa_nil)))) pss_nil)
    (pss_cons (ps_if (pt_cmpR op_eq (pv 1) pe_str (nomark _)) (pss_one (ps_ret (pe_callH h_put_in_by_right (hr.mono (by omega)) (by rfl) (pa_cons (pv 2) pa_nil)))) pss_nil)
    (pss_cons (ps_if (pt_cmpR op_eq (pv 1) pe_str (nomark _)) (pss_one (ps_ret (pe_lst (pa_cons (pe_tup (pa_cons (pe_lst pa_nil) (pa_cons (pe_lst (pa_cons (pv 2) pa_nil)) pa_nil))) (pa_cons (pe_tup (pa_cons (pe_lst (pa_cons (pv 2) pa_nil)) (pa_cons (pe_lst pa_nil) pa_nil))) pa_nil))))) pss_nil)
    (pss_one (ps_ret (pe_lst pa_nil))))))), ?_⟩
  rintro ds d hl ⟨v, g, rfl, hs, rfl⟩
  left
  refine pus_asg (d := .tuple [.str v.txt, g.toD]) (pu_var rfl) (pug_two 1 2) ?_
  cases v with
  | left => exact pus_take (pu_eqS1 (pu_var rfl) (pu_str _) rfl) (pus_ret (pu_call (pu_cons (pu_var rfl) pu_nil) rfl ⟨g, rfl, hs (.inl rfl), rfl⟩))
  | right => exact pus_skip (pu_eqS0 (pu_var rfl) (pu_str _) (by decide +kernel)) (pus_take (pu_eqS1 (pu_var rfl) (pu_str _) rfl) (pus_ret (pu_call (pu_cons (pu_var rfl) pu_nil) rfl ⟨g, rfl, hs (.inr rfl), rfl⟩)))
  | lem => exact pus_skip (pu_eqS0 (pu_var rfl) (pu_str _) (by decide +kernel)) (pus_skip (pu_eqS0 (pu_var rfl) (pu_str _) (by decide +kernel)) (pus_take (pu_eqS1 (pu_var rfl) (pu_str _) rfl) (pus_ret (pu_cs2 (pu_c pu_l0 (pu_l1 (pu_var rfl))) (pu_c (pu_l1 (pu_var rfl)) pu_l0)))))
  | same => exact pus_skip (pu_eqS0 (pu_var rfl) (pu_str _) (by decide +kernel)) (pus_skip (pu_eqS0 (pu_var rfl) (pu_str _) (by decide +kernel)) (pus_skip (pu_eqS0 (pu_var rfl) (pu_str _) (by decide +kernel)) (pus_ret (pu_lst (ds := []) pu_nil (by decide)))))
end
/-! ### new claims -/
/-- the expression gives a claim of new lists -/
def NwE (K : PySem.W.Frag) (te : TE) (ρ : Rho) (c : Cl) : Prop := ∀ (M : Addr → Bool) σ H, Hid M H → EnvD K (vis M H) σ ρ → ∀ Q : VK, (∀ v H', Same H H' → NewCl K H H' v c → Q v H') → te σ H Q
/-- .. a new list of such -/
def NwL (K : PySem.W.Frag) (te : TE) (ρ : Rho) (cs : List Cl) : Prop := ∀ (M : Addr → Bool) σ H, Hid M H → EnvD K (vis M H) σ ρ → ∀ Q : VK, (∀ p ys H', Same H H' → H p = none → H' p = some (.lst ys) → Paired (NewCl K (upd H p (.lst [])) H') ys cs → Q (.ref p) H') → te σ H Q
section
variable {K : PySem.W.Frag} {ρ ρ' : Rho} {te ta tb : TE} {wi : TI} {g : TG} {vs : List Nat}
theorem nw_tup {A B : List Fm} (h : PuE K ta ρ (lsD A)) (k : PuE K tb ρ (lsD B)) (sa : Sh A) (sb : Sh B) (la : A.length ≤ 1000) (lb : B.length ≤ 1000) :
    NwE K (tTup (tCons (tCall (spOwn K 1 gEach) [] E0 (tCons ta tNil)) (tCons (tCall (spOwn K 1 gEach) [] E0 (tCons tb tNil)) tNil))) ρ (once A, once B) := fun M σ H hid en Q q => by
  refine h M σ H hid en _ fun v H1 e1 hv => ?_
  obtain ⟨a, xs, rfl, ha, hx⟩ := dp_lstI hv
  dsimp only [tCons, tCall, tNil]
  show spOwn K 1 gEach [.ref a] H1 _ E0
  refine each_at (hid.same e1) ha hx sa la fun p ys H2 e2 np hp hy => ?_
  refine k M σ H2 (hid.same (e1.trans e2)) (en.same (vis_same (e1.trans e2))) _ fun v' H3 e3 hv' => ?_
  obtain ⟨b, zs, rfl, hb, hz⟩ := dp_lstI hv'
  try dsimp only [tCons, tCall, tNil]
  show spOwn K 1 gEach [.ref b] H3 _ E0
  refine each_at (hid.same (e1.trans (e2.trans e3))) hb hz sb lb fun p2 ys2 H4 e4 np2 hp2 hy2 => ?_
  refine ⟨sl1000 (by show 2 ≤ 100000; decide), fun t nt => ?_⟩
  have s5 := same_new nt (HO.tup [V.ref p, V.ref p2])
  have n1 : ∀ {Ha Hb : Hp} {r : Addr}, Same Ha Hb → Hb r = none → Ha r = none := fun {Ha Hb r} e n => by
    cases z : Ha r with
    | none => rfl
    | some u => rw [e _ _ z] at n; cases n
  exact q (.ref t) _ (e1.trans (e2.trans (e3.trans (e4.trans s5)))) ⟨t, p, p2, ys, ys2, rfl, SqT.of upd_same, n1 e1 np, n1 (e1.trans (e2.trans e3)) np2, s5 _ _ (e4 _ _ (e3 _ _ hp)), s5 _ _ hp2, dpAll_same (e3.trans (e4.trans s5)) _ _ hy, dpAll_same s5 _ _ hy2⟩
theorem newcl_upd {H0 H : Hp} {D : Addr} {xs zs : List V} {v : V} {c : Cl} (hD : H0 D = some (.lst zs)) (hD2 : H D = some (.lst xs)) (o : HO) (h : NewCl K H0 H v c) : NewCl K H0 (upd H D o) v c := by
  obtain ⟨t, a, b, ys, ys2, h1, h2, h3, h4, h5, h6, h7, h8⟩ := h
  have tk : Tk K H (upd H D o) := Tk.of_but (But.upd D H o) (.inl ⟨_, hD2⟩)
  have na : a ≠ D := fun z => by rw [z, hD] at h3; cases h3
  have nb : b ≠ D := fun z => by rw [z, hD] at h4; cases h4
  exact ⟨t, a, b, ys, ys2, h1, tk _ _ h2, h3, h4, by rw [upd_ne na]; exact h5, by rw [upd_ne nb]; exact h6, fms_keep tk _ _ h7, fms_keep tk _ _ h8⟩
theorem paired_imp {α β : Type} {R S : α → β → Prop} (h : ∀ a b, R a b → S a b) : ∀ {l : List α} {m : List β}, Paired R l m → Paired S l m
  | _, _, .nil => .nil
  | _, _, .cons a t => .cons (h _ _ a) (paired_imp h t)
theorem paired_snoc {α β : Type} {R : α → β → Prop} {a : α} {b : β} (h : R a b) : ∀ {l : List α} {m : List β}, Paired R l m → Paired R (l ++ [a]) (m ++ [b])
  | _, _, .nil => .cons h .nil
  | _, _, .cons x t => .cons x (paired_snoc h t)
theorem same_upd2 {H H' : Hp} {p : Addr} {o : HO} (e : Same H H') : Same (upd H p o) (upd H' p o) := fun b u h => by
  by_cases z : b = p
  · rw [z, upd_same] at h ⊢
    exact h
  · rw [upd_ne z] at h ⊢
    exact e b u h
theorem nw_lc {α : Type} {xs : List α} {td : α → PyData} (hi : PuI K wi ρ (xs.map td)) (hl : xs.length ≤ 90000) (f : α → Cl) (hb : ∀ x ∈ xs, ∃ ρ', PuG K g vs (wipeR ρ vs) (td x) ρ' ∧ NwE K te ρ' (f x)) (hw : ∀ σ : L2.St, wipe (wipe σ vs) vs = wipe σ vs) :
    NwL K (tLc wi g tYes te vs) ρ (xs.map f) := fun M σ H hid en Q q => hi M σ H hid en _ fun J H1 e1 it D nD => by
  have hid1 := hid.same e1
  generalize hM' : (fun b => M b || b == D) = M'
  have mD : M' D = true := by rw [← hM']; simp
  have older : ∀ {Hn v c}, NewCl K (upd H1 D (.lst [])) Hn v c → NewCl K (upd H D (.lst [])) Hn v c := fun z => z.older (same_upd2 e1)
  have nHD : H D = none := by
    cases z : H D with
    | none => rfl
    | some u => rw [e1 _ _ z] at nD; cases nD
  refine ⟨fun i m Hn => m = xs.length - i ∧ i ≤ xs.length ∧ Same H1 Hn ∧ ∃ acc, Hn D = some (.lst acc) ∧ acc.length ≤ i ∧ (∀ p, p ≠ D → Hn p = none → H1 p = none) ∧ Paired (NewCl K (upd H1 D (.lst [])) Hn) acc ((xs.take i).map f), ⟨_, rfl, Nat.zero_le _, same_new nD _, [], upd_same, Nat.le_refl _, fun p ne n => by rw [upd_ne ne] at n; exact n, ?_⟩, ?_⟩
  · rw [List.take_zero]
    exact .nil
  · rintro i m Hn ⟨rfl, ile, s, acc, hD, al, fr, ha⟩
    have sv : Same (vis M H1) (vis M' Hn) := by
      rw [← hM']
      exact same_vis_or nD s
    have hidn : Hid M' Hn := by
      rw [← hM']
      exact hid_or (hid1.same s) hD
    by_cases c : i < xs.length
    · have hx : xs[i]? = some xs[i] := List.getElem?_eq_getElem c
      refine .inr ⟨it.go i Hn (sv.trans vis_sub) (by rw [List.length_map]; exact c), fun H' => Same H1 H' ∧ ∃ acc, H' D = some (.lst acc) ∧ acc.length ≤ i + 1 ∧ (∀ p, p ≠ D → H' p = none → H1 p = none) ∧ Paired (NewCl K (upd H1 D (.lst [])) H') acc ((xs.take (i + 1)).map f), fun H' nx => ⟨_, by omega, rfl, c, nx⟩, fun x Hy y => ?_⟩
      obtain ⟨sy, dy⟩ := it.yl i Hn x Hy (td xs[i]) (sv.trans vis_sub) (by rw [List.getElem?_map, hx]; rfl) y
      have hdx := dy M' hidn sv
      obtain ⟨ρ', hg, he⟩ := hb xs[i] (List.getElem_mem c)
      have en1 : EnvD K (vis M' Hy) (wipe σ vs) (wipeR ρ vs) := EnvD.wipe (en.same (((vis_same e1).trans sv).trans (vis_same sy))) vs
      refine hg M' (wipe σ vs) Hy x en1 hdx _ fun σ' en2 wq => ⟨wq.trans (hw σ), ?_⟩
      have hidy := hidn.same sy
      dsimp only [tYes]
      rw [if_pos rfl]
      refine he M' σ' Hy hidy en2 _ fun u H4 e4 hu => ?_
      have s4 := sy.trans e4
      have hD4 := s4 _ _ hD
      have tk : (xs.take (i + 1)).map f = (xs.take i).map f ++ [f xs[i]] := by rw [List.take_succ, hx, Option.toList_some, List.map_append]; rfl
      refine ⟨acc, hD4, sl1001 (by omega), same_upd (s.trans s4) nD, acc ++ [u], upd_same, by rw [List.length_append, List.length_singleton]; omega, fun p ne n => ?_, ?_⟩
      · rw [upd_ne ne] at n
        refine fr p ne ?_
        cases z : Hn p with
        | none => rfl
        | some o => rw [s4 _ _ z] at n; cases n
      · rw [tk]
        have base : Same (upd H1 D (.lst [])) (upd H1 D (.lst [])) := Same.refl _
        refine paired_snoc ?_ (paired_imp (fun v c' z => newcl_upd (K := K) (xs := acc) upd_same hD4 _ (z.same s4)) ha)
        refine newcl_upd (K := K) (xs := acc) upd_same hD4 _ ?_
        obtain ⟨t, a, b, ys, ys2, h1, h2, h3, h4, h5⟩ := hu
        have old : ∀ p, Hy p = none → upd H1 D (.lst []) p = none := fun p n => by
          have ne : p ≠ D := fun z => by rw [z, sy _ _ hD] at n; cases n
          rw [upd_ne ne]
          refine fr p ne ?_
          cases z : Hn p with
          | none => rfl
          | some o => rw [sy _ _ z] at n; cases n
        exact ⟨t, a, b, ys, ys2, h1, h2, old a h3, old b h4, h5⟩
    · have e : i = xs.length := by omega
      subst e
      rw [List.take_length] at ha
      exact .inl ⟨it.st _ Hn (sv.trans vis_sub) (by rw [List.length_map]; exact Nat.le_refl _), q D acc Hn (e1.trans s) nHD hD (paired_imp (fun v c' z => older z) ha)⟩
theorem nw_map2 {α : Type} {xs : List α} {td tf : α → PyData} {j k : Nat} (hi : PuI K wi ρ (xs.map fun x => .tuple [td x, tf x])) (hl : xs.length ≤ 90000) (f : α → Cl) (hb : ∀ x ∈ xs, NwE K te ((ρ.set j (some (td x))).set k (some (tf x))) (f x)) :
    NwL K (tLc wi (gTup K 2 (gCons (gName j) (gCons (gName k) gNil))) tYes te [j, k]) ρ (xs.map f) := by
  refine nw_lc (g := gTup K 2 (gCons (gName j) (gCons (gName k) gNil))) (vs := [j, k]) (te := te) hi hl f (fun x hx => ⟨_, pug_two j k, ?_⟩) (fun σ => wipe_two σ j k)
  show NwE K te (((((ρ.set k none).set j none).set j (some (td x)))).set k (some (tf x))) (f x)
  have e : ((((ρ.set k none).set j none).set j (some (td x)))).set k (some (tf x)) = (ρ.set j (some (td x))).set k (some (tf x)) := by
    apply List.ext_getElem?
    intro i
    simp only [List.getElem?_set, List.length_set]
    by_cases a : j = i <;> by_cases b : k = i <;> simp [a, b]
  rw [e]
  exact hb x hx
end
def spLed (K : PySem.W.Frag) : Sp := fun vs H Q _ => ∃ (M : Addr → Bool) (v u : V) (c : Cl) (w : Wd) (f : Fm), vs = [v, u] ∧ Hid M H ∧ Dp K (vis M H) v c.toD ∧ Dp K (vis M H) u (Ru.fm w f).toD ∧ Sh c.1 ∧ Sh c.2 ∧ c.1.length ≤ 900 ∧ c.2.length ≤ 900 ∧ f.dep ≤ 60 ∧ ((w = .left ∨ w = .right) → f.isSg = false) ∧
  ∀ p ys H', Same H H' → H p = none → H' p = some (.lst ys) → Paired (NewCl K (upd H p (.lst [])) H') ys (led c w f) → Q (.ref p) H'
theorem putIn_low {w : Wd} {f : Fm} (h : f.dep ≤ 60) {p : Cl} (hp : p ∈ putIn w f) : Sh p.1 ∧ Sh p.2 ∧ p.1.length ≤ 2 ∧ p.2.length ≤ 2 := by
  have one : ∀ {g : Fm}, g.dep ≤ 60 → Sh [g] := fun hg x hx => by rw [List.mem_singleton.mp hx]; exact hg
  have two : ∀ {g k : Fm}, g.dep ≤ 60 → k.dep ≤ 60 → Sh [g, k] := fun hg hk x hx => by
    rcases List.mem_cons.mp hx with rfl | hx
    · exact hg
    · rw [List.mem_singleton.mp hx]; exact hk
  have nil : Sh [] := fun x hx => nomatch hx
  cases w with
  | same => cases hp
  | lem =>
    rcases List.mem_cons.mp hp with rfl | hp
    · exact ⟨nil, one h, by simp, by simp⟩
    · rw [List.mem_singleton.mp hp]; exact ⟨one h, nil, by simp, by simp⟩
  | left =>
    cases f with
    | sg i => cases hp
    | no g =>
      have hg : g.dep ≤ 60 := by have h : g.dep + 1 ≤ 60 := h; omega
      rw [List.mem_singleton.mp hp]; exact ⟨nil, one hg, by simp, by simp⟩
    | bi b g k =>
      have hm : max g.dep k.dep + 1 ≤ 60 := h
      have hg : g.dep ≤ 60 := by omega
      have hk : k.dep ≤ 60 := by omega
      cases b with
      | an => rw [List.mem_singleton.mp hp]; exact ⟨two hg hk, nil, by simp, by simp⟩
      | o =>
        rcases List.mem_cons.mp hp with rfl | hp
        · exact ⟨one hg, nil, by simp, by simp⟩
        · rw [List.mem_singleton.mp hp]; exact ⟨one hk, nil, by simp, by simp⟩
      | th =>
        rcases List.mem_cons.mp hp with rfl | hp
        · exact ⟨nil, one hg, by simp, by simp⟩
        · rw [List.mem_singleton.mp hp]; exact ⟨one hk, nil, by simp, by simp⟩
  | right =>
    cases f with
    | sg i => cases hp
    | no g =>
      have hg : g.dep ≤ 60 := by have h : g.dep + 1 ≤ 60 := h; omega
      rw [List.mem_singleton.mp hp]; exact ⟨one hg, nil, by simp, by simp⟩
    | bi b g k =>
      have hm : max g.dep k.dep + 1 ≤ 60 := h
      have hg : g.dep ≤ 60 := by omega
      have hk : k.dep ≤ 60 := by omega
      cases b with
      | an =>
        rcases List.mem_cons.mp hp with rfl | hp
        · exact ⟨nil, one hg, by simp, by simp⟩
        · rw [List.mem_singleton.mp hp]; exact ⟨nil, one hk, by simp, by simp⟩
      | o => rw [List.mem_singleton.mp hp]; exact ⟨nil, two hg hk, by simp, by simp⟩
      | th => rw [List.mem_singleton.mp hp]; exact ⟨one hg, one hk, by simp, by simp⟩
theorem putIn_len (w : Wd) (f : Fm) : (putIn w f).length ≤ 2 := by
  cases w with
  | same => exact Nat.zero_le _
  | lem => exact Nat.le_refl _
  | left =>
    cases f with
    | sg i => exact Nat.zero_le _
    | no g => exact Nat.le_succ 1
    | bi b g k => cases b <;> first | exact Nat.le_refl _ | exact Nat.le_succ 1
  | right =>
    cases f with
    | sg i => exact Nat.zero_le _
    | no g => exact Nat.le_succ 1
    | bi b g k => cases b <;> first | exact Nat.le_refl _ | exact Nat.le_succ 1
theorem sh_without {L : List Fm} (h : Sh L) (f : Fm) : Sh (without L f) := fun g hg => h g (mem_without.mp hg).1
theorem without_len (L : List Fm) (f : Fm) : (without L f).length ≤ L.length := List.length_filter_le _ _
theorem sh_out {w v : Wd} {L : List Fm} {g : Fm} (h : Sh L) : Sh (outOf w v L g) := by
  show Sh (if w = v then without L g else L)
  split
  · exact sh_without h g
  · exact h
theorem out_len (w v : Wd) (L : List Fm) (g : Fm) : (outOf w v L g).length ≤ L.length := by
  show (if w = v then without L g else L).length ≤ L.length
  split
  · exact without_len L g
  · exact Nat.le_refl _
section
variable {P : Program} {w : World} {K : PySem.W.Frag} {mg : Str → Option Value} {base : Heap} {f : Addr} {fd : FuncData}
theorem scLedTo : FnScope ["claim", "rule", "word", "f", "left", "right", "g", "to_left", "to_right"] ["claim", "rule"] (defScope sLedTo) := ⟨rfl, rfl, rfl, by decide +kernel, rfl, by decide +kernel, by decide +kernel⟩
theorem pu_without {te : TE} {ρ : Rho} {L : List Fm} {g : Fm} {i j : Nat} (h : PuE K te ρ (lsD L)) (hs : Sh L) (hn : L.length ≤ 1000) (hg : g.dep ≤ 60) (ij : i ≠ j) (hi : ρ[i]? = some (some g.toD)) (hj : j < ρ.length) :
    PuE K (tLc (iList K te) (gName j) (tTest (tOp (rNeD K) (tVar j) (tVar i))) (tVar j) [j]) ρ (lsD (without L g)) := by
  refine pu_fil (xs := L) (td := Fm.toD) (pui_list h) (by omega) (fun x => !decide (x = g)) Fm.toD fun x hx => ⟨?_, fun _ => ?_⟩
  · refine (pu_tTest (pu_neD (d := x.toD) (e := g.toD) (pu_var ?_) (pu_var ?_) (sh_fm hs hx) (shaped_fm g (by omega)))).cast ?_
    · rw [List.getElem?_set_self hj]
    · rw [List.getElem?_set_ne ij.symm]; exact hi
    · rw [Fm.toD_eqv]
  · exact pu_var (by rw [List.getElem?_set_self hj])
theorem ok_ledTo (D : Df K mg "led_to" sLedTo ["claim", "rule"] f fd) (h_each_once : Has P w K mg base 1 "each_once" ["side"] (spOwn K 1 gEach)) (h_put_in : Has P w K mg base 2 "put_in" ["rule"] (spPu K 1 gPut)) : FnOk P w K mg base CX0 3 f fd ["claim", "rule"] (spLed K) := by
  refine D.fn.ok scLedTo (fun vs H Q E h => ?_) (fun cdv A outer s H vs Q E hr h => ?_)
  · obtain ⟨M, v, u, c, w, g, rfl, _⟩ := h
    rfl
  obtain ⟨M, v, u, c, wd, g, rfl, hid, hv, hu', s1, s2, l1, l2, hg, hsg, q⟩ := h
  have hu : (A.deeper (envOfC "led_to" (defScope sLedTo) s.heap.objs.size f cdv)).units + 65 < cLine := by have := hr.un; omega
  refine ⟨_, (pss_cons (ps_asg (pv 1) (pg_tup rfl (pgs_cons (pg_name (i := 2) scLedTo.nd rfl (by first | exact Or.inl rfl | exact Or.inr rfl)) (pgs_cons (pg_name (i := 3) scLedTo.nd rfl (by first | exact Or.inl rfl | exact Or.inr rfl)) pgs_nil))))
    (pss_cons (ps_asg (pv 0) (pg_tup rfl (pgs_cons (pg_name (i := 4) scLedTo.nd rfl (by first | exact Or.inl rfl | exact Or.inr rfl)) (pgs_cons (pg_name (i := 5) scLedTo.nd rfl (by first | exact Or.inl rfl | exact Or.inr rfl)) pgs_nil))))
    (pss_cons (ps_if (pt_cmpR op_eq (pv 2) pe_str (nomark _)) (pss_one (ps_set (i := 4) scLedTo.nd rfl (by first | exact Or.inl rfl | exact Or.inr rfl) (pe_lc (own := [("g", 6)]) (g := gName 6) rfl scLedTo.nd (pi_list (pv 4)) (blkOk_by (N := ["claim", "rule", "word", "f", "left", "right", "g", "to_left", "to_right"]) (sc := defScope sLedTo) (by decide +kernel)) (fun _ _ _ _ _ => (pg_name (i := 6) scLedTo.nd rfl (by first | exact Or.inl rfl | exact Or.inr rfl))) (fun _ _ _ _ _ => (pts_one (pt_cmpR (r := rNeD K) (op_neD (Nat.lt_of_succ_lt hu)) (pv 6) (pv 3) (nomark _)))) (fun _ _ _ _ _ => (pv 6))))) pss_nil)
    (pss_cons (ps_if (pt_cmpR op_eq (pv 2) pe_str (nomark _)) (pss_one (ps_set (i := 5) scLedTo.nd rfl (by first | exact Or.inl rfl | exact Or.inr rfl) (pe_lc (own := [("g", 6)]) (g := gName 6) rfl scLedTo.nd (pi_list (pv 5)) (blkOk_by (N := ["claim", "rule", "word", "f", "left", "right", "g", "to_left", "to_right"]) (sc := defScope sLedTo) (by decide +kernel)) (fun _ _ _ _ _ => (pg_name (i := 6) scLedTo.nd rfl (by first | exact Or.inl rfl | exact Or.inr rfl))) (fun _ _ _ _ _ => (pts_one (pt_cmpR (r := rNeD K) (op_neD (Nat.lt_of_succ_lt hu)) (pv 6) (pv 3) (nomark _)))) (fun _ _ _ _ _ => (pv 6))))) pss_nil)
    (pss_one (ps_ret (pe_lc (own := [("to_left", 7), ("to_right", 8)]) (g := gTup _ 2 (gCons (gName 7) (gCons (gName 8) gNil))) (tt := tYes) rfl scLedTo.nd (pi_list (pe_callH h_put_in (hr.mono (by omega)) (by rfl) (pa_cons (pv 1) pa_nil))) (blkOk_by (N := ["claim", "rule", "word", "f", "left", "right", "g", "to_left", "to_right"]) (sc := defScope sLedTo) (by decide +kernel)) (fun _ _ _ _ _ => (pg_tup rfl (pgs_cons (pg_name (i := 7) scLedTo.nd rfl (by first | exact Or.inl rfl | exact Or.inr rfl)) (pgs_cons (pg_name (i := 8) scLedTo.nd rfl (by first | exact Or.inl rfl | exact Or.inr rfl)) pgs_nil)))) (fun _ _ _ _ _ => pts_nil) (fun _ _ _ _ _ => (pe_tup (pa_cons (pe_callH h_each_once (hr.mono (by omega)) (by rfl) (pa_cons (pe_op (r := rCatL K) op_catL (pv 4) (pv 7)) pa_nil)) (pa_cons (pe_callH h_each_once (hr.mono (by omega)) (by rfl) (pa_cons (pe_op (r := rCatL K) op_catL (pv 5) (pv 8)) pa_nil)) pa_nil))))))))))), ?_⟩
  have en : EnvD K (vis M H) (L2.start ["claim", "rule", "word", "f", "left", "right", "g", "to_left", "to_right"] [v, u]) (startD ["claim", "rule", "word", "f", "left", "right", "g", "to_left", "to_right"] [c.toD, (Ru.fm wd g).toD]) := envD_start (.cons hv (.cons hu' .nil))
  refine pus_asg1 (d := .tuple [.str wd.txt, g.toD]) (pu_var rfl) (pug_two 2 3) M _ H hid en _ fun σ1 H1 e1 en1 => ?_
  refine pus_asg1 (d := .tuple [lsD c.1, lsD c.2]) (pu_var rfl) (pug_two 4 5) M _ H1 (hid.same e1) en1 _ fun σ2 H2 e2 en2 => ?_
  have e12 := e1.trans e2
  generalize hA : outOf wd .left c.1 g = A1
  generalize hB : outOf wd .right c.2 g = B1
  have p1 : PuS K (tIfS (tTest (tOp rEq (tVar 2) (tC (.str ("left" : Str))))) (tAsg (tLc (iList K (tVar 4)) (gName 6) (tTest (tOp (rNeD K) (tVar 6) (tVar 3))) (tVar 6) [6]) (gName 4)) tNext)
      [some c.toD, some (Ru.fm wd g).toD, some (.str wd.txt), some g.toD, some (lsD c.1), some (lsD c.2), none, none, none] (.nx [some c.toD, some (Ru.fm wd g).toD, some (.str wd.txt), some g.toD, some (lsD A1), some (lsD c.2), none, none, none]) := by
    refine pus_if (pu_tTest (pu_eqS (pu_var rfl) (pu_str _))) (fun z => ?_) (fun z => ?_)
    · have z : wd = .left := wtxt_inj (of_decide_eq_true z)
      subst z
      rw [show outOf .left .left c.1 g = without c.1 g from rfl] at hA
      subst hA
      exact pus_set1 (i := 4) (pu_without (pu_var rfl) s1 (by omega) hg (by decide) rfl (by show 6 < 9; decide))
    · have z : ¬ wd = .left := fun y => by rw [y] at z; exact absurd (of_decide_eq_false z) (fun n => n rfl)
      rw [show outOf wd .left c.1 g = c.1 from if_neg z] at hA
      subst hA
      exact pus_next
  have p2 : PuS K (tIfS (tTest (tOp rEq (tVar 2) (tC (.str ("right" : Str))))) (tAsg (tLc (iList K (tVar 5)) (gName 6) (tTest (tOp (rNeD K) (tVar 6) (tVar 3))) (tVar 6) [6]) (gName 5)) tNext)
      [some c.toD, some (Ru.fm wd g).toD, some (.str wd.txt), some g.toD, some (lsD A1), some (lsD c.2), none, none, none] (.nx [some c.toD, some (Ru.fm wd g).toD, some (.str wd.txt), some g.toD, some (lsD A1), some (lsD B1), none, none, none]) := by
    refine pus_if (pu_tTest (pu_eqS (pu_var rfl) (pu_str _))) (fun z => ?_) (fun z => ?_)
    · have z : wd = .right := wtxt_inj (of_decide_eq_true z)
      subst z
      rw [show outOf .right .right c.2 g = without c.2 g from rfl] at hB
      subst hB
      exact pus_set1 (i := 5) (pu_without (pu_var rfl) s2 (by omega) hg (by decide) rfl (by show 6 < 9; decide))
    · have z : ¬ wd = .right := fun y => by rw [y] at z; exact absurd (of_decide_eq_false z) (fun n => n rfl)
      rw [show outOf wd .right c.2 g = c.2 from if_neg z] at hB
      subst hB
      exact pus_next
  have sA : Sh A1 ∧ A1.length ≤ 900 := by
    rw [← hA]
    exact ⟨sh_out s1, Nat.le_trans (out_len _ _ _ _) l1⟩
  have sB : Sh B1 ∧ B1.length ≤ 900 := by
    rw [← hB]
    exact ⟨sh_out s2, Nat.le_trans (out_len _ _ _ _) l2⟩
  refine p1 M _ H2 (hid.same e12) en2 _ fun σ3 H3 e3 en3 => ?_
  refine p2 M _ H3 (hid.same (e12.trans e3)) en3 _ fun σ4 H4 e4 en4 => ?_
  have e14 := e12.trans (e3.trans e4)
  have led_eq : led c wd g = (putIn wd g).map fun p => (once (A1 ++ p.1), once (B1 ++ p.2)) := by rw [← hA, ← hB]; rfl
  rw [led_eq] at q
  dsimp only [tRet]
  refine nw_map2 (j := 7) (k := 8) (xs := putIn wd g) (td := fun p => lsD p.1) (tf := fun p => lsD p.2) (pui_list ?_) (Nat.le_trans (putIn_len wd g) (by decide)) (fun p => (once (A1 ++ p.1), once (B1 ++ p.2))) (fun p hp => ?_) M _ H4 (hid.same e14) en4 _ fun r ys H5 e5 nr hr5 hys => ?_
  · exact pu_call (pu_cons (pu_var rfl) pu_nil) rfl ⟨wd, g, rfl, hsg, rfl⟩
  · obtain ⟨q1, q2, q3, q4⟩ := putIn_low hg hp
    exact nw_tup (pu_cat (pu_var rfl) (pu_var rfl) (by rw [List.length_map, List.length_map]; omega) |>.cast (by rw [← List.map_append]; rfl)) (pu_cat (pu_var rfl) (pu_var rfl) (by rw [List.length_map, List.length_map]; omega) |>.cast (by rw [← List.map_append]; rfl)) (sh_app sA.1 q1) (sh_app sB.1 q2) (by rw [List.length_append]; omega) (by rw [List.length_append]; omega)
  · have old : ∀ p, H4 p = none → H p = none := fun p n => by
      cases z : H p with
      | none => rfl
      | some o => rw [e14 _ _ z] at n; cases n
    exact q r ys H5 (e14.trans e5) (old r nr) hr5 (paired_imp (fun v c z => z.older (same_upd2 e14)) hys)
end
end Lm
set_option Elab.async false
set_option linter.all false
set_option maxRecDepth 100000
set_option maxHeartbeats 400000
namespace Lm
open PySem PySem.Spec PyProof.Rows L2
section
variable {K : PySem.W.Frag} {ρ : Rho} {te ta tb : TE} {tt tu : TT} {d e : PyData}
theorem pu_or_l (h : PuT K tt ρ true) : PuT K (tOr tt tu) ρ true := (pu_tOr (c := true) h fun z => nomatch z).cast rfl
theorem pu_or_r {c : Bool} (h : PuT K tt ρ false) (k : PuT K tu ρ c) : PuT K (tOr tt tu) ρ c := (pu_tOr h fun _ => k).cast (Bool.false_or _)
theorem pu_isFormula (h : PuE K te ρ d) : PuE K (tCall (spIsFormula K) [] E0 (tCons te tNil)) ρ (.bool (isF 12 d)) := fun M σ H hid en Q q => h M σ H hid en _ fun v H1 e1 hv =>
  ⟨v, d, rfl, dp_same vis_sub _ _ hv, fun H' e2 => q _ H' (e1.trans e2) (.bl _)⟩
theorem pu_isClaim (h : PuE K te ρ d) (hs : short d) : PuE K (tCall (spIsClaim K) [] E0 (tCons te tNil)) ρ (.bool (isC d)) := fun M σ H hid en Q q => h M σ H hid en _ fun v H1 e1 hv =>
  ⟨v, d, rfl, dp_same vis_sub _ _ hv, hs, fun H' e2 => q _ H' (e1.trans e2) (.bl _)⟩
theorem pu_words {n : Nat} {f : Fm} (h : PuE K te ρ f.toD) (hn : f.dep < n) : PuE K (tCall (spWords K n) [] E0 (tCons te tNil)) ρ (.int (f.size : Int)) := fun M σ H hid en Q q => h M σ H hid en _ fun v H1 e1 hv =>
  ⟨v, f, rfl, dp_same vis_sub _ _ hv, hn, fun H' e2 => q _ H' (e1.trans e2) (.int _)⟩
end
/-! ### _fits -/
theorem fmD_inj {f g : Fm} (h : f.toD = g.toD) : f = g := by
  have e := Fm.toD_eqv f g
  have e2 := Fm.toD_eqv f f
  rw [← h, e2, decide_eq_true rfl] at e
  exact of_decide_eq_true e.symm
theorem fmsD_inj {L R : List Fm} (h : L.map Fm.toD = R.map Fm.toD) : L = R := by
  induction L generalizing R with
  | nil => cases R with
    | nil => rfl
    | cons _ _ => cases h
  | cons f L ih => cases R with
    | nil => cases h
    | cons g R =>
      rw [List.map_cons, List.map_cons] at h
      injection h with h1 h2
      rw [fmD_inj h1, ih h2]
theorem clD_inj {a b : Cl} (h : a.toD = b.toD) : a = b := by
  injection h with h
  injection h with h1 h2
  injection h1 with h1
  injection h2 with h2 _
  injection h2 with h2
  exact Prod.ext (fmsD_inj h1) (fmsD_inj h2)
theorem ruD_inj {a b : Ru} (h : a.toD = b.toD) : a = b := by
  cases a with
  | fm w f =>
    cases b with
    | fm v g =>
      injection h with h
      injection h with h1 h2
      injection h1 with h1
      injection h2 with h2 _
      rw [wtxt_inj h1, fmD_inj h2]
    | more c =>
      injection h with h
      injection h with h1 h2
      injection h1 with h1
      exact absurd h1 (wtxt_more w)
  | more c =>
    cases b with
    | fm v g =>
      injection h with h
      injection h with h1 h2
      injection h1 with h1
      exact absurd h1.symm (wtxt_more v)
    | more c' =>
      injection h with h
      injection h with h1 h2
      injection h2 with h2 _
      rw [clD_inj h2]
/-- b tells whether the rule d fits -/
def FitsD (c : Cl) (d : PyData) (b : Bool) : Prop := (∀ ru : Ru, d = ru.toD → ru.ok → b = fits c ru) ∧ ((∀ ru : Ru, d = ru.toD → ¬ ru.ok) → b = false)
theorem fitsD_ex (c : Cl) (d : PyData) : ∃ b, FitsD c d b := by
  by_cases h : ∃ ru : Ru, d = ru.toD ∧ ru.ok
  · obtain ⟨ru, rfl, ok⟩ := h
    exact ⟨fits c ru, fun ru' e _ => by rw [ruD_inj e], fun n => absurd ok (n ru rfl)⟩
  · exact ⟨false, fun ru e ok => absurd ⟨ru, e, ok⟩ h, fun _ => rfl⟩
def shortR (d : PyData) : Prop := ∀ w t, d = .tuple [.str w, t] → short t
def gFits (ds : List PyData) (r : PyData) : Prop := ∃ (c : Cl) (d : PyData) (b : Bool), ds = [c.toD, d] ∧ LowC c ∧ shortR d ∧ r = .bool b ∧ FitsD c d b
theorem ru_str {d0 d1 : PyData} (h : isSt d0 = false) (ru : Ru) : ¬ PyData.tuple [d0, d1] = ru.toD := by
  intro z
  cases ru with
  | fm w f => injection z with z; injection z with z1 z2; rw [z1] at h; cases h
  | more c => injection z with z; injection z with z1 z2; rw [z1] at h; cases h
theorem cl_short {c : Cl} (h : wordsC c ≤ 60) : short c.toD := by
  show (c.1.map Fm.toD).length + (c.2.map Fm.toD).length ≤ 1000
  rw [List.length_map, List.length_map]
  have := words_len c.1
  have := words_len c.2
  unfold wordsC at h
  omega
theorem cl_low {c : Cl} (h : wordsC c ≤ 60) (g : GdC c) : LowC c := by
  have := words_len c.1
  have := words_len c.2
  unfold wordsC at h
  exact ⟨g.1.sh, g.2.sh, by omega, by omega⟩
theorem isC_cl {c : Cl} (g : GdC c) : isC c.toD = decide (wordsC c ≤ 60) := isC_cD g.1 g.2
theorem isC_cback {d : PyData} (h : isC d = true) : ∃ c : Cl, d = c.toD ∧ GdC c ∧ wordsC c ≤ 60 := by
  obtain ⟨L, R, e, g1, g2, w⟩ := isC_back h
  exact ⟨(L, R), e, ⟨g1, g2⟩, w⟩
section
variable {P : Program} {w : World} {K : PySem.W.Frag} {mg : Str → Option Value} {base : Heap} {f : Addr} {fd : FuncData}
theorem scFits : FnScope ["claim", "rule", "word", "told", "left", "right"] ["claim", "rule"] (defScope sFits) := ⟨rfl, rfl, rfl, by decide +kernel, rfl, by decide +kernel, by decide +kernel⟩
theorem ok_fits (D : Df K mg "_fits" sFits ["claim", "rule"] f fd) (B : Blt mg) (h_is_claim : Has P w K mg base 17 "is_claim" ["thing"] (spIsClaim K)) (h_is_formula : Has P w K mg base 16 "is_formula" ["thing"] (spIsFormula K)) (h_stands_in : Has P w K mg base 2 "stands_in" ["one", "other"] (spPu K 2 gStandsIn)) :
    FnOk P w K mg base CX0 18 f fd ["claim", "rule"] (spPu K 2 gFits) := by
  refine ok_pu D scFits fun cdv A outer s H E hr => ?_
  have hu : (A.deeper (envOfC "_fits" (defScope sFits) s.heap.objs.size f cdv)).units + 65 < cLine := by have := hr.un; omega
  refine ⟨_, (pss_cons (ps_if (PW.pt (pw_or (pt_not (pt_val (pe_callB (r := rIsi K) call_isi (by rfl) B.isinstance bt_isinstance (pa_cons (pv 1) (pa_cons (pe_bltn (v := .ty "tuple") (by rfl) B.tuple bt_tuple rfl) pa_nil))))) (pw_or (pt_cmpR op_ne (pe_callB (r := rLn K) call_len_seq (by rfl) B.len PySem.boot_len (pa_cons (pv 1) pa_nil)) pe_int (nomark _)) (pw_or1 (pt_not (pt_val (pe_callB (r := rIsi K) call_isi (by rfl) B.isinstance bt_isinstance (pa_cons (pe_ix (r := rIxT K) ix_tup (pv 1) pe_int (fun _ _ => rfl)) (pa_cons (pe_bltn (v := .ty "str") (by rfl) B.str bt_str rfl) pa_nil))))))))) (pss_one (ps_ret pe_bl)) pss_nil)
    (pss_cons (ps_asg (pv 1) (pg_tup rfl (pgs_cons (pg_name (i := 2) scFits.nd rfl (by first | exact Or.inl rfl | exact Or.inr rfl)) (pgs_cons (pg_name (i := 3) scFits.nd rfl (by first | exact Or.inl rfl | exact Or.inr rfl)) pgs_nil))))
    (pss_cons (ps_if (pt_cmpR op_eq (pv 2) pe_str (nomark _)) (pss_one (ps_ret (pe_and (pe_callH h_is_claim (hr.mono (by omega)) (by rfl) (pa_cons (pv 3) pa_nil)) (pe_one (pe_callH h_stands_in (hr.mono (by omega)) (by rfl) (pa_cons (pv 3) (pa_cons (pv 0) pa_nil))))))) pss_nil)
    (pss_cons (ps_if (pt_not (pt_val (pe_callH h_is_formula (hr.mono (by omega)) (by rfl) (pa_cons (pv 3) pa_nil)))) (pss_one (ps_ret pe_bl)) pss_nil)
    (pss_cons (ps_asg (pv 0) (pg_tup rfl (pgs_cons (pg_name (i := 4) scFits.nd rfl (by first | exact Or.inl rfl | exact Or.inr rfl)) (pgs_cons (pg_name (i := 5) scFits.nd rfl (by first | exact Or.inl rfl | exact Or.inr rfl)) pgs_nil))))
    (pss_cons (ps_if (pt_cmpR op_eq (pv 2) pe_str (nomark _)) (pss_one (ps_ret (pe_and (pe_cmpR (r := rInD K) (op_inD hu) (pv 3) (pv 4) (by rfl)) (pe_one (pe_cmpR (r := rInD K) (op_inD hu) (pv 3) (pv 5) (by rfl)))))) pss_nil)
    (pss_cons (ps_if (pt_cmpR op_eq (pv 2) pe_str (nomark _)) (pss_one (ps_ret (pe_and (pe_cmpR (r := rInD K) (op_inD hu) (pv 3) (pv 4) (by rfl)) (pe_one (pe_cmpR op_ne (pe_ix (r := rIxT K) ix_tup (pv 3) pe_int (fun _ _ => rfl)) pe_str (nomark _)))))) pss_nil)
    (pss_cons (ps_if (pt_cmpR op_eq (pv 2) pe_str (nomark _)) (pss_one (ps_ret (pe_and (pe_cmpR (r := rInD K) (op_inD hu) (pv 3) (pv 5) (by rfl)) (pe_one (pe_cmpR op_ne (pe_ix (r := rIxT K) ix_tup (pv 3) pe_int (fun _ _ => rfl)) pe_str (nomark _)))))) pss_nil)
    (pss_one (ps_ret (pe_cmpR op_eq (pv 2) pe_str (nomark _)))))))))))), ?_⟩
  rintro ds r hl ⟨c, d, b, rfl, hc, hsh, rfl, hb1, hb2⟩
  left
  have no : (∀ ru : Ru, ¬ d = ru.toD) → b = false := fun h => hb2 fun ru e _ => h ru e
  -- no tuple
  by_cases t1 : isTu d = true
  rotate_left
  · have t1 : isTu d = false := by simpa using t1
    rw [no fun ru e => by rw [e] at t1; cases ru <;> cases t1]
    exact pus_take (pu_or_l ((pu_tNot (pu_tB (pu_isTup (pu_var rfl)))).cast (by rw [t1]; rfl))) (pus_ret (pu_bl false))
  obtain ⟨xs, rfl⟩ : ∃ xs, d = .tuple xs := by
    cases d <;> first | exact ⟨_, rfl⟩ | cases t1
  have q1 : PuT K (tNot (tB (tCB (rIsi K) (tCons (tVar 1) (tCons (tC (.ty "tuple")) tNil))))) (startD ["claim", "rule", "word", "told", "left", "right"] [c.toD, .tuple xs]) false := (pu_tNot (pu_tB (pu_isTup (pu_var rfl)))).cast rfl
  by_cases t2 : xs.length = 2
  rotate_left
  · have q2 : (!decide ((xs.length : Int) = 2)) = true := by rw [decide_eq_false (by omega)]; rfl
    rw [no fun ru e => by cases ru <;> (injection e with e; rw [e] at t2; exact t2 rfl)]
    exact pus_take (pu_or_r q1 (pu_or_l ((pu_tTest (pu_neI (pu_len_t (pu_var rfl)) (pu_int 2))).cast q2))) (pus_ret (pu_bl false))
  obtain ⟨d0, t, rfl⟩ : ∃ a b, xs = [a, b] := by
    match xs, t2 with
    | [a, b], _ => exact ⟨a, b, rfl⟩
  have ix : PuE K (tOp (rIxT K) (tVar 1) (tC (.int 0))) (startD ["claim", "rule", "word", "told", "left", "right"] [c.toD, .tuple [d0, t]]) d0 := pu_ixT (ds := [d0, t]) (pu_var rfl) (pu_int 0) (tix0 _ _ _)
  have q2 : PuT K (tTest (tOp rNe (tCB (rLn K) (tCons (tVar 1) tNil)) (tC (.int 2)))) (startD ["claim", "rule", "word", "told", "left", "right"] [c.toD, .tuple [d0, t]]) false :=
    (pu_tTest (pu_neI (pu_len_t (ds := [d0, t]) (pu_var rfl)) (pu_int 2))).cast rfl
  by_cases t3 : isSt d0 = true
  rotate_left
  · have t3 : isSt d0 = false := by simpa using t3
    rw [no fun ru e => ru_str t3 ru e]
    exact pus_take (pu_or_r q1 (pu_or_r q2 ((pu_tNot (pu_tB (pu_isStr ix))).cast (by rw [t3]; rfl)))) (pus_ret (pu_bl false))
  obtain ⟨x, rfl⟩ : ∃ x, d0 = .str x := by
    cases d0 <;> first | exact ⟨_, rfl⟩ | cases t3
  refine pus_skip (pu_or_r q1 (pu_or_r q2 ((pu_tNot (pu_tB (pu_isStr ix))).cast rfl))) ?_
  refine pus_asg (d := .tuple [.str x, t]) (pu_var rfl) (pug_two 2 3) ?_
  have hst : short t := hsh x t rfl
  by_cases xm : x = ("more" : Str)
  · refine pus_take (pu_eqS1 (pu_var rfl) (pu_str _) xm) (pus_ret ?_)
    by_cases ic : isC t = true
    · obtain ⟨m, rfl, gm, wm⟩ := isC_cback ic
      have eb : b = (isC m.toD && decide (Sub m c)) := by rw [ic, hb1 (.more m) (by rw [xm]; rfl) ⟨gm, wm⟩]; rfl
      rw [eb]
      exact pu_and (pu_isClaim (pu_var rfl) hst) fun _ => pu_call (pu_cons (pu_var rfl) (pu_cons (pu_var rfl) pu_nil)) rfl ⟨m, c, rfl, cl_low wm gm, hc, rfl⟩
    · have ic : isC t = false := by simpa using ic
      have eb : b = (isC t && false) := by
        rw [ic, hb2 fun ru e ok => ?_]
        · rfl
        · cases ru with
          | fm w f =>
            injection e with e; injection e with e1 e2; injection e1 with e1
            exact wtxt_more w (e1.symm.trans xm)
          | more m =>
            injection e with e; injection e with e1 e2; injection e2 with e2 _
            rw [e2, show cD m.1 m.2 = m.toD from rfl, isC_cl ok.1, decide_eq_true ok.2] at ic
            cases ic
      rw [eb]
      exact pu_and (c := false) (pu_isClaim (pu_var rfl) hst) fun z => by rw [ic] at z; cases z
  refine pus_skip (pu_eqS0 (pu_var rfl) (pu_str _) xm) ?_
  by_cases hf : isF 12 t = true
  rotate_left
  · have hf : isF 12 t = false := by simpa using hf
    refine pus_take ((pu_tNot (pu_tB (pu_isFormula (pu_var rfl)))).cast (by rw [hf]; rfl)) (pus_ret ((pu_bl false).cast ?_))
    rw [hb2 fun ru e ok => ?_]
    cases ru with
    | fm w f =>
      injection e with e; injection e with e1 e2; injection e2 with e2 _
      rw [e2, isF_toD f 12 ok.1 ok.2] at hf
      cases hf
    | more m =>
      injection e with e; injection e with e1 e2; injection e1 with e1
      exact xm e1
  obtain ⟨g, rfl, gg, g12⟩ := isF_back 12 t hf
  refine pus_skip ((pu_tNot (pu_tB (pu_isFormula (pu_var rfl)))).cast (by rw [hf]; rfl)) ?_
  refine pus_asg (d := .tuple [lsD c.1, lsD c.2]) (pu_var rfl) (pug_two 4 5) ?_
  have sg : SeqAt.shaped g.toD = true := shaped_fm g (by omega)
  have inL : PuE K (tOp (rInD K) (tVar 3) (tVar 4)) [some c.toD, some (.tuple [.str x, g.toD]), some (.str x), some g.toD, some (lsD c.1), some (lsD c.2)] (.bool (decide (g ∈ c.1))) := (pu_inD (ds := c.1.map Fm.toD) (pu_var rfl) (pu_var rfl) sg (sh_shaped hc.1)).cast (by rw [any_fm])
  have inR : PuE K (tOp (rInD K) (tVar 3) (tVar 5)) [some c.toD, some (.tuple [.str x, g.toD]), some (.str x), some g.toD, some (lsD c.1), some (lsD c.2)] (.bool (decide (g ∈ c.2))) := (pu_inD (ds := c.2.map Fm.toD) (pu_var rfl) (pu_var rfl) sg (sh_shaped hc.2.1)).cast (by rw [any_fm])
  have nsg : PuE K (tOp rNe (tOp (rIxT K) (tVar 3) (tC (.int 0))) (tC (.str ("sign" : Str)))) [some c.toD, some (.tuple [.str x, g.toD]), some (.str x), some g.toD, some (lsD c.1), some (lsD c.2)] (.bool (!g.isSg)) := (pu_neS (pu_fm0 rfl) (pu_str _)).cast (by rw [wd_sg])
  have okg : ∀ v : Wd, (Ru.fm v g).ok := fun v => ⟨gg, g12⟩
  by_cases x1 : x = ("same" : Str)
  · refine pus_take (pu_eqS1 (pu_var rfl) (pu_str _) x1) (pus_ret ?_)
    rw [hb1 (.fm .same g) (by rw [x1]; rfl) (okg _)]
    exact pu_and inL fun _ => inR
  refine pus_skip (pu_eqS0 (pu_var rfl) (pu_str _) x1) ?_
  by_cases x2 : x = ("left" : Str)
  · refine pus_take (pu_eqS1 (pu_var rfl) (pu_str _) x2) (pus_ret ?_)
    rw [hb1 (.fm .left g) (by rw [x2]; rfl) (okg _)]
    exact pu_and inL fun _ => nsg
  refine pus_skip (pu_eqS0 (pu_var rfl) (pu_str _) x2) ?_
  by_cases x3 : x = ("right" : Str)
  · refine pus_take (pu_eqS1 (pu_var rfl) (pu_str _) x3) (pus_ret ?_)
    rw [hb1 (.fm .right g) (by rw [x3]; rfl) (okg _)]
    exact pu_and inR fun _ => nsg
  refine pus_skip (pu_eqS0 (pu_var rfl) (pu_str _) x3) (pus_ret ((pu_eqS (pu_var rfl) (pu_str _)).cast ?_))
  by_cases x4 : x = ("lemma" : Str)
  · rw [hb1 (.fm .lem g) (by rw [x4]; rfl) (okg _), decide_eq_true x4]
    rfl
  · rw [decide_eq_false x4, hb2 fun ru e ok => ?_]
    cases ru with
    | fm w f =>
      injection e with e; injection e with e1 e2; injection e1 with e1
      cases w with
      | same => exact x1 e1
      | left => exact x2 e1
      | right => exact x3 e1
      | lem => exact x4 e1
    | more m =>
      injection e with e; injection e with e1 e2; injection e1 with e1
      exact xm e1
end
def spWanted (K : PySem.W.Frag) (C0 : Addr) : Sp := fun vs H Q E => ∃ (v u : V) (dc d : PyData), vs = [v, u] ∧ Dp K H v dc ∧ Dp K H u d ∧ short dc ∧ shortR d ∧
  (∀ c : Cl, dc = c.toD → GdC c → wordsC c ≤ 60 → (∀ ru : Ru, d = ru.toD → ru.ok → fits c ru = true → ∀ p ys H', Same H H' → H p = none → H' p = some (.lst ys) → Paired (NewCl K (upd H p (.lst [])) H') ys (wants c ru) → Q (.ref p) H') ∧
    ((∀ ru : Ru, d = ru.toD → ru.ok → fits c ru = false) → ∀ H', Same H H' → Q .non H')) ∧ (isC dc = false → ∀ H', Same H H' → E (.ref C0) none H')
theorem ru_ix0 (ru : Ru) : ∃ x t, ru.toD = .tuple [.str x, t] ∧ (x = ("more" : Str) ↔ ∃ m, ru = .more m) := by
  cases ru with
  | fm w f => exact ⟨_, _, rfl, fun z => absurd z (wtxt_more w), fun ⟨m, z⟩ => nomatch z⟩
  | more m => exact ⟨_, _, rfl, fun _ => ⟨m, rfl⟩, fun _ => rfl⟩
section
variable {P : Program} {w : World} {K : PySem.W.Frag} {mg : Str → Option Value} {base : Heap} {f : Addr} {fd : FuncData}
theorem dp_ru {H : Hp} {v : V} {x : Str} {t : PyData} (h : Dp K H v (.tuple [.str x, t])) : ∃ a u, v = .ref a ∧ SqT K H a [.str x, u] ∧ Dp K H u t := by
  obtain ⟨a, vs, rfl, hs, ha⟩ := dp_tupI h
  cases ha with
  | cons h1 ha =>
    cases ha with
    | cons h2 ha =>
      cases ha
      cases h1
      exact ⟨a, _, rfl, hs, h2⟩
theorem scWanted : FnScope ["claim", "rule"] ["claim", "rule"] (defScope sWanted) := ⟨rfl, rfl, rfl, by decide +kernel, rfl, by decide +kernel, by decide +kernel⟩
theorem ok_wanted {C0 : Addr} (D : Df K mg "wanted" sWanted ["claim", "rule"] f fd) (h_refuse_no_claim : HasN P w K mg base 18 "refuse_no_claim" ["thing"] (spNoClaim K C0)) (h_fits : Has P w K mg base 18 "_fits" ["claim", "rule"] (spPu K 2 gFits)) (h_told_once : Has P w K mg base 2 "told_once" ["claim"] (spToldOnce K)) (h_led_to : Has P w K mg base 3 "led_to" ["claim", "rule"] (spLed K)) :
    FnOk P w K mg base (L2N.CX P w) 19 f fd ["claim", "rule"] (spWanted K C0) := by
  refine fun_okN D.fn scWanted (fun vs H Q E h => ?_) (fun cv A outer s H vs Q E hr h => ?_)
  · obtain ⟨v, u, dc, d, rfl, _⟩ := h
    rfl
  obtain ⟨v, u, dc, d, rfl, hv, hu, s1, s2, q1, q2⟩ := h
  refine ⟨_, (pss_cons (ps_expr (pe_callN (E := E) h_refuse_no_claim (L2N.takes_of rfl rfl rfl rfl) (fun _ _ _ _ h => h) (hr.mono (by omega)) (by rfl) (pa_cons (pv 0) pa_nil)))
    (pss_cons (ps_if (pt_not (pt_val (pe_callH h_fits (hr.mono (by omega)) (by rfl) (pa_cons (pv 0) (pa_cons (pv 1) pa_nil))))) (pss_one (ps_ret pe_non)) pss_nil)
    (pss_cons (ps_if (pt_cmpR op_eq (pe_ix (r := rIxT K) ix_tup (pv 1) pe_int (fun _ _ => rfl)) pe_str (nomark _)) (pss_one (ps_ret (pe_lst (pa_cons (pe_callH h_told_once (hr.mono (by omega)) (by rfl) (pa_cons (pe_ix (r := rIxT K) ix_tup (pv 1) pe_int (fun _ _ => rfl)) pa_nil)) pa_nil)))) pss_nil)
    (pss_one (ps_ret (pe_callH h_led_to (hr.mono (by omega)) (by rfl) (pa_cons (pv 0) (pa_cons (pv 1) pa_nil)))))))), ?_⟩
  refine ⟨v, rfl, v, dc, rfl, hv, s1, fun c1 H1 e1 => ?_, q2⟩
  obtain ⟨c, rfl, gc, wc⟩ := isC_cback c1
  obtain ⟨q3, q4⟩ := q1 c rfl gc wc
  have lc := cl_low wc gc
  obtain ⟨b, hb⟩ := fitsD_ex c d
  have en : EnvD K (vis (fun _ => false) H1) (L2.start ["claim", "rule"] [v, u]) (startD ["claim", "rule"] [c.toD, d]) := by
    rw [vis_none]
    exact envD_start (.cons (dp_same e1 _ _ hv) (.cons (dp_same e1 _ _ hu) .nil))
  have tf : PuT K (tNot (tB (tCall (spPu K 2 gFits) [] E0 (tCons (tVar 0) (tCons (tVar 1) tNil))))) (startD ["claim", "rule"] [c.toD, d]) (!b) := pu_tNot (pu_tB (pu_call (pu_cons (pu_var rfl) (pu_cons (pu_var rfl) pu_nil)) rfl ⟨c, d, b, rfl, lc, s2, rfl, hb⟩))
  dsimp only [tSeq, tIfS, tNext, tRet]
  refine tf _ _ H1 Hid.none en _ fun H2 e2 => ?_
  have e12 := e1.trans e2
  cases b with
  | false =>
    refine iteT (q4 (fun ru e ok => ?_) H2 e12)
    exact (hb.1 ru e ok).symm
  | true =>
    refine iteF ?_
    obtain ⟨ru, rfl, ok⟩ : ∃ ru : Ru, d = ru.toD ∧ ru.ok := by
      by_cases z : ∃ ru : Ru, d = ru.toD ∧ ru.ok
      · exact z
      · exact absurd (hb.2 fun ru e ok => z ⟨ru, e, ok⟩) (by decide)
    have hfit := hb.1 ru rfl ok
    have q5 := q3 ru rfl ok hfit.symm
    obtain ⟨x, t, er, xm⟩ := ru_ix0 ru
    have hu2 := dp_same e12 _ _ hu
    rw [er] at hu2
    obtain ⟨a, y, rfl, ha, hy⟩ := dp_ru hu2
    refine ⟨.ref a, rfl, a, _, 0, _, rfl, rfl, ha, at0 _ _, rfl, _, rfl, ?_⟩
    refine ite2 (fun z => ?_) (fun z => ?_)
    · have z : x = ("more" : Str) := V.str.inj (of_decide_eq_true z)
      obtain ⟨m, rfl⟩ := xm.1 z
      injection er with er
      injection er with er1 er2
      injection er2 with er2 _
      rw [← er2] at hy
      refine ⟨.ref a, rfl, a, _, 1, _, rfl, rfl, ha, at1 _ _ _, y, m, rfl, hy, cl_low ok.2 ok.1, fun v' H3 e3 nw => ?_⟩
      refine ⟨sl1000 (by show 1 ≤ 100000; decide), fun p np => ?_⟩
      have s4 := same_new np (HO.lst [v'])
      have old : ∀ {Ha Hb : Hp} {r : Addr}, Same Ha Hb → Hb r = none → Ha r = none := fun {Ha Hb r} e n => by
        cases z : Ha r with
        | none => rfl
        | some o => rw [e _ _ z] at n; cases n
      refine q5 p [v'] _ (e12.trans (e3.trans s4)) (old (e12.trans e3) np) upd_same (.cons ?_ .nil)
      obtain ⟨t2, a2, b2, xs2, ys2, m1, m2, m3, m4, m5, m6, m7, m8⟩ := nw
      have na : ∀ r xs, H3 r = some (.lst xs) → H2 r = none → upd H p (.lst []) r = none := fun r xs z n => by
        rw [upd_ne fun y => by rw [y, np] at z; cases z]
        exact old e12 n
      exact ⟨t2, a2, b2, xs2, ys2, m1, sqT_same s4 m2, na _ _ m5 m3, na _ _ m6 m4, s4 _ _ m5, s4 _ _ m6, dpAll_same s4 _ _ m7, dpAll_same s4 _ _ m8⟩
    · have z : ¬ x = ("more" : Str) := fun y => z (decide_eq_true (congrArg V.str y))
      cases ru with
      | more m => exact absurd (xm.2 ⟨m, rfl⟩) z
      | fm wd g =>
        refine ⟨v, rfl, .ref a, rfl, fun _ => false, v, .ref a, c, wd, g, rfl, Hid.none, by rw [vis_none]; exact dp_same e12 _ _ hv, by rw [vis_none]; exact dp_same e12 _ _ hu, lc.1, lc.2.1, ?_, ?_, Nat.le_trans ok.2 (by decide), fun hw => ?_, fun p ys H3 e3 np hp hys => ?_⟩
        · have := words_len c.1
          unfold wordsC at wc
          omega
        · have := words_len c.2
          unfold wordsC at wc
          omega
        · rcases hw with rfl | rfl
          · have hfit : (decide (g ∈ c.1) && !g.isSg) = true := hfit.symm
            rw [Bool.and_eq_true] at hfit
            simpa using hfit.2
          · have hfit : (decide (g ∈ c.2) && !g.isSg) = true := hfit.symm
            rw [Bool.and_eq_true] at hfit
            simpa using hfit.2
        · have old : H p = none := by
            cases z : H p with
            | none => rfl
            | some o => rw [e12 _ _ z] at np; cases np
          exact q5 p ys H3 (e12.trans e3) old hp (paired_imp (fun v c z => z.older (same_upd2 e12)) hys)
end
end Lm
set_option Elab.async false
set_option linter.all false
set_option maxRecDepth 100000
set_option maxHeartbeats 400000
namespace Lm
open PySem PySem.Spec PyProof.Rows L2
def gCell (ds : List PyData) (d : PyData) : Prop := ∃ (ns : List Int) (k : Int), ds = [intsD ns, .int k] ∧ 0 ≤ k ∧ d = .int (cellN ns k)
def gFirst (ds : List PyData) (d : PyData) : Prop := ∃ (ns : List Int), ds = [intsD ns] ∧ d = .int (firstN ns)
def gCount (ds : List PyData) (d : PyData) : Prop := ∃ (b : Int), ds = [.int b] ∧ d = .int (countN b)
def gSign (ds : List PyData) (d : PyData) : Prop := ∃ (k b : Int), ds = [.int k, .int b] ∧ d = .int (signN k b)
def gFormula (n : Nat) (ds : List PyData) (d : PyData) : Prop := ∃ (c b : Int) (m : Nat), ds = [.int c, .int (m : Int), .int b] ∧ m < n ∧ d = (formN m c b).toD
def gWith (ds : List PyData) (d : PyData) : Prop := ∃ A B : List Fm, ds = [lsD A, lsD B] ∧ Sh A ∧ Sh B ∧ A.length ≤ 1000 ∧ B.length ≤ 1000 ∧ d = lsD (once (A ++ B))
def gWithout (ds : List PyData) (d : PyData) : Prop := ∃ (A : List Fm) (f : Fm), ds = [lsD A, f.toD] ∧ Sh A ∧ f.dep ≤ 60 ∧ A.length ≤ 2000 ∧ d = lsD (without A f)
def gSplit (ds : List PyData) (d : PyData) : Prop := ∃ (f : Fm) (r : Bool), ds = [f.toD, .int (if r = true then 1 else 0)] ∧ f.isSg = false ∧ d = .list ((if r = true then putR f else putL f).map Cl.toD)
def ruLow : Ru → Prop
  | .fm _ f => f.dep ≤ 60
  | .more m => LowC m
def gLWanted (ds : List PyData) (d : PyData) : Prop := ∃ (c : Cl) (ru : Ru), ds = [c.toD, ru.toD] ∧ LowC c ∧ ruLow ru ∧ d = optD (lwants c ru)
def gLWords (n : Nat) (ds : List PyData) (d : PyData) : Prop := ∃ f : Fm, ds = [f.toD] ∧ f.dep < n ∧ d = .int (f.size : Int)
theorem pu_ixI {K : PySem.W.Frag} {ρ : Rho} {ta tb : TE} {ns : List Int} {k z : Int} (h : PuE K ta ρ (intsD ns)) (h2 : PuE K tb ρ (.int k)) (e : atI ns k = some z) : PuE K (tOp (rIxL K) ta tb) ρ (.int z) := by
  refine pu_ixL (ds := ns.map PyData.int) h h2 ?_
  unfold atI at e ⊢
  rw [List.length_map]
  cases q : ixN ns.length k with
  | none => rw [q] at e; cases e
  | some j =>
    rw [q] at e
    have e : ns[j]? = some z := e
    show (ns.map PyData.int)[j]? = some (.int z)
    rw [List.getElem?_map, e]
    rfl
theorem atI_in {ns : List Int} {k : Int} (h0 : 0 ≤ k) (h : k < (ns.length : Int)) : atI ns k = some (cellN ns k) := by
  obtain ⟨j, rfl⟩ := Int.eq_ofNat_of_zero_le h0
  have hj : j < ns.length := by omega
  unfold cellN
  rw [if_pos h, atI_get' hj]
  rfl
theorem cmul48 (i : Int) : CMul i 48271 := .inr ⟨by decide, by decide⟩
theorem cmul16 (i : Int) : CMul i 16807 := .inr ⟨by decide, by decide⟩
theorem cdiv8 (i : Int) : CDiv i 8 := ⟨by decide, by decide⟩
theorem cdiv100 (i : Int) : CDiv i 100 := ⟨by decide, by decide⟩
section
variable {P : Program} {w : World} {K : PySem.W.Frag} {mg : Str → Option Value} {base : Heap} {f : Addr} {fd : FuncData}
theorem scCell : FnScope ["_law_script", "_law_k"] ["_law_script", "_law_k"] (defScope sCell) := ⟨rfl, rfl, rfl, by decide +kernel, rfl, by decide +kernel, by decide +kernel⟩
theorem ok_cell (D : Df K mg "_law_cell_at" sCell ["_law_script", "_law_k"] f fd) (B : Blt mg) : FnOk P w K mg base CX0 1 f fd ["_law_script", "_law_k"] (spPu K 2 gCell) := by
  refine ok_pu D scCell fun cdv A outer s H E hr => ?_
  refine ⟨_, (pss_cons (ps_if (pt_cmpR op_lt (pv 1) (pe_callB (r := rLn K) call_len_seq (by rfl) B.len PySem.boot_len (pa_cons (pv 0) pa_nil)) (nomark _)) (pss_one (ps_ret (pe_ix (r := rIxL K) ix_list (pv 0) (pv 1) (fun _ _ => rfl)))) pss_nil)
    (pss_one (ps_ret pe_int))), ?_⟩
  rintro ds d hl ⟨ns, k, rfl, h0, rfl⟩
  left
  have len : PuE K (tCB (rLn K) (tCons (tVar 0) tNil)) (startD ["_law_script", "_law_k"] [intsD ns, .int k]) (.int (ns.length : Int)) := (pu_len_l (ds := ns.map PyData.int) (pu_var rfl)).cast (by rw [List.length_map])
  refine pus_ifr (pu_tTest (pu_lt (pu_var rfl) len)) (fun c => ⟨_, rfl, pus_ret (pu_ixI (pu_var rfl) (pu_var rfl) (atI_in h0 (of_decide_eq_true c)))⟩) (fun c => pus_ret ((pu_int 0).cast ?_))
  unfold cellN
  rw [if_neg (of_decide_eq_false c)]
theorem scFirst : FnScope ["_law_script"] ["_law_script"] (defScope sFirst) := ⟨rfl, rfl, rfl, by decide +kernel, rfl, by decide +kernel, by decide +kernel⟩
theorem ok_first (D : Df K mg "_law_first" sFirst ["_law_script"] f fd) (h_law_cell_at : Has P w K mg base 1 "_law_cell_at" ["_law_script", "_law_k"] (spPu K 2 gCell)) : FnOk P w K mg base CX0 2 f fd ["_law_script"] (spPu K 1 gFirst) := by
  refine ok_pu D scFirst fun cdv A outer s H E hr => ?_
  refine ⟨_, (pss_one (ps_ret (pe_op op_mod (pe_op op_mul (pe_callH h_law_cell_at (hr.mono (by omega)) (by rfl) (pa_cons (pv 0) (pa_cons pe_int pa_nil))) pe_int) pe_int))), ?_⟩
  rintro ds d hl ⟨ns, rfl, rfl⟩
  exact .inl (pus_ret (pu_mod (pu_mul (pu_call (pu_cons (pu_var rfl) (pu_cons (pu_int 0) pu_nil)) rfl ⟨ns, 0, rfl, Int.le_refl 0, rfl⟩) (pu_int _) (cmul48 _)) (pu_int _) (by decide)))
theorem scCount : FnScope ["_law_base"] ["_law_base"] (defScope sCount) := ⟨rfl, rfl, rfl, by decide +kernel, rfl, by decide +kernel, by decide +kernel⟩
theorem pu_six {ρ : Rho} {a b c d e f : Int} : PuE K (tLst (tCons (tC (.int a)) (tCons (tC (.int b)) (tCons (tC (.int c)) (tCons (tC (.int d)) (tCons (tC (.int e)) (tCons (tC (.int f)) tNil))))))) ρ (intsD [a, b, c, d, e, f]) :=
  pu_lst (pu_cons (pu_int _) (pu_cons (pu_int _) (pu_cons (pu_int _) (pu_cons (pu_int _) (pu_cons (pu_int _) (pu_cons (pu_int _) pu_nil)))))) (by simp)
theorem ok_count (D : Df K mg "_law_count" sCount ["_law_base"] f fd) : FnOk P w K mg base CX0 1 f fd ["_law_base"] (spPu K 1 gCount) := by
  refine ok_pu D scCount fun cdv A outer s H E hr => ?_
  refine ⟨_, (pss_one (ps_ret (pe_ix (r := rIxL K) ix_list (pe_lst (pa_cons pe_int (pa_cons pe_int (pa_cons pe_int (pa_cons pe_int (pa_cons pe_int (pa_cons pe_int pa_nil))))))) (pe_op op_mod (pe_op op_fdiv (pv 0) pe_int) pe_int) (fun _ _ => rfl)))), ?_⟩
  rintro ds d hl ⟨b, rfl, rfl⟩
  exact .inl (pus_ret (pu_ixI pu_six (pu_mod (pu_fdiv (pu_var rfl) (pu_int 100) (cdiv100 _)) (pu_int 6) (by decide)) (countN_at b).1))
theorem scSign : FnScope ["_law_k", "_law_base"] ["_law_k", "_law_base"] (defScope sSign) := ⟨rfl, rfl, rfl, by decide +kernel, rfl, by decide +kernel, by decide +kernel⟩
theorem ok_sign (D : Df K mg "_law_sign" sSign ["_law_k", "_law_base"] f fd) (h_law_count : Has P w K mg base 1 "_law_count" ["_law_base"] (spPu K 1 gCount)) : FnOk P w K mg base CX0 2 f fd ["_law_k", "_law_base"] (spPu K 2 gSign) := by
  refine ok_pu D scSign fun cdv A outer s H E hr => ?_
  refine ⟨_, (pss_one (ps_ret (pe_op op_mod (pe_op op_add (pv 1) (pe_op op_mul (pe_ix (r := rIxL K) ix_list (pe_lst (pa_cons pe_int (pa_cons pe_int (pa_cons pe_int (pa_cons pe_int (pa_cons pe_int (pa_cons pe_int pa_nil))))))) (pe_op op_mod (pe_op op_fdiv (pv 1) pe_int) pe_int) (fun _ _ => rfl)) (pe_op op_mod (pv 0) (pe_callH h_law_count (hr.mono (by omega)) (by rfl) (pa_cons (pv 1) pa_nil))))) pe_int))), ?_⟩
  rintro ds d hl ⟨k, b, rfl, rfl⟩
  exact .inl (pus_ret (pu_mod (pu_add (pu_var rfl) (pu_mul (pu_ixI pu_six (pu_mod (pu_fdiv (pu_var rfl) (pu_int 100) (cdiv100 _)) (pu_int 6) (by decide)) (tabN_at b).1)
    (pu_mod (pu_var rfl) (pu_call (pu_cons (pu_var rfl) pu_nil) rfl ⟨b, rfl, rfl⟩) (by have := (countN_at b).2.1; omega)) (.inl (tabN_at b).2))) (pu_int 100) (by decide)))
theorem scFormula : FnScope ["_law_cell", "_law_deep", "_law_base", "_law_more", "_law_one", "_law_other"] ["_law_cell", "_law_deep", "_law_base"] (defScope sFormula) := ⟨rfl, rfl, rfl, by decide +kernel, rfl, by decide +kernel, by decide +kernel⟩
theorem ok_formula {n : Nat} (D : Df K mg "_law_formula" sFormula ["_law_cell", "_law_deep", "_law_base"] f fd) (h_law_sign : Has P w K mg base 2 "_law_sign" ["_law_k", "_law_base"] (spPu K 2 gSign)) (h_law_formula : Has P w K mg base (n + 2) "_law_formula" ["_law_cell", "_law_deep", "_law_base"] (spPu K 3 (gFormula n))) :
    FnOk P w K mg base CX0 (n + 3) f fd ["_law_cell", "_law_deep", "_law_base"] (spPu K 3 (gFormula (n + 1))) := by
  refine ok_pu D scFormula fun cdv A outer s H E hr => ?_
  refine ⟨_, (pss_cons (ps_set (i := 3) scFormula.nd rfl (by first | exact Or.inl rfl | exact Or.inr rfl) (pe_op op_fdiv (pv 0) pe_int))
    (pss_cons (ps_if (PW.pt (pw_or (pt_cmpR op_lt (pv 1) pe_int (nomark _)) (pw_or1 (pt_cmpR op_lt (pe_op op_mod (pv 0) pe_int) pe_int (nomark _))))) (pss_one (ps_ret (pe_tup (pa_cons pe_str (pa_cons (pe_callH h_law_sign (hr.mono (by omega)) (by rfl) (pa_cons (pv 3) (pa_cons (pv 2) pa_nil))) pa_nil))))) pss_nil)
    (pss_cons (ps_set (i := 4) scFormula.nd rfl (by first | exact Or.inl rfl | exact Or.inr rfl) (pe_callH h_law_formula (hr.mono (by omega)) (by rfl) (pa_cons (pe_op op_mod (pe_op op_mul (pv 3) pe_int) pe_int) (pa_cons (pe_op op_sub (pv 1) pe_int) (pa_cons (pv 2) pa_nil)))))
    (pss_cons (ps_if (pt_cmpR op_eq (pe_op op_mod (pv 0) pe_int) pe_int (nomark _)) (pss_one (ps_ret (pe_tup (pa_cons pe_str (pa_cons (pv 4) pa_nil))))) pss_nil)
    (pss_cons (ps_set (i := 5) scFormula.nd rfl (by first | exact Or.inl rfl | exact Or.inr rfl) (pe_callH h_law_formula (hr.mono (by omega)) (by rfl) (pa_cons (pe_op op_mod (pe_op op_mul (pv 3) pe_int) pe_int) (pa_cons (pe_op op_sub (pv 1) pe_int) (pa_cons (pv 2) pa_nil)))))
    (pss_one (ps_ret (pe_tup (pa_cons (pe_ix (r := rIxL K) ix_list (pe_lst (pa_cons pe_str (pa_cons pe_str (pa_cons pe_str pa_nil)))) (pe_op op_mod (pv 0) pe_int) (fun _ _ => rfl)) (pa_cons (pv 4) (pa_cons (pv 5) pa_nil))))))))))), ?_⟩
  rintro ds d hl ⟨c, b, m, rfl, hm, rfl⟩
  left
  refine pus_set (pu_fdiv (pu_var rfl) (pu_int 8) (cdiv8 _)) ?_
  have sg : ∀ {ρ : Rho}, ρ[3]? = some (some (.int (c / 8))) → ρ[2]? = some (some (.int b)) → PuE K (tTup (tCons (tC (.str ("sign" : Str))) (tCons (tCall (spPu K 2 gSign) [] E0 (tCons (tVar 3) (tCons (tVar 2) tNil))) tNil))) ρ (Fm.sg (signN (c / 8) b)).toD :=
    fun h h2 => pu_tup (pu_cons (pu_str _) (pu_cons (pu_call (pu_cons (pu_var h) (pu_cons (pu_var h2) pu_nil)) rfl ⟨_, _, rfl, rfl⟩) pu_nil)) (by simp)
  cases m with
  | zero => exact pus_take (pu_or_l ((pu_tTest (pu_lt (pu_var rfl) (pu_int 1))).cast rfl)) (pus_ret (sg rfl rfl))
  | succ m =>
    have t1 : PuT K (tTest (tOp (rI0 fun i j => .bl (decide (i < j))) (tVar 1) (tC (.int 1)))) [some (.int c), some (.int ((m + 1 : Nat) : Int)), some (.int b), some (.int (c / 8)), none, none] false := (pu_tTest (pu_lt (pu_var rfl) (pu_int 1))).cast (decide_eq_false (by omega))
    rw [formN]
    by_cases c1 : c % 8 < 3
    · rw [if_pos c1]
      exact pus_take (pu_or_r t1 ((pu_tTest (pu_lt (pu_mod (pu_var rfl) (pu_int 8) (by decide)) (pu_int 3))).cast (decide_eq_true c1))) (pus_ret (sg rfl rfl))
    rw [if_neg c1]
    refine pus_skip (pu_or_r t1 ((pu_tTest (pu_lt (pu_mod (pu_var rfl) (pu_int 8) (by decide)) (pu_int 3))).cast (decide_eq_false c1))) ?_
    have deep : ∀ {ρ : Rho}, ρ[1]? = some (some (.int ((m + 1 : Nat) : Int))) → PuE K (tOp (rI0 fun i j => .int (i - j)) (tVar 1) (tC (.int 1))) ρ (.int (m : Int)) := fun h => (pu_sub (pu_var h) (pu_int 1)).cast (by congr 1; omega)
    refine pus_set (d := (formN m (c / 8 * 48271 % 65537) b).toD) (pu_call (pu_cons (pu_mod (pu_mul (pu_var rfl) (pu_int _) (cmul48 _)) (pu_int _) (by decide)) (pu_cons (deep rfl) (pu_cons (pu_var rfl) pu_nil))) rfl ⟨_, b, m, rfl, by omega, rfl⟩) ?_
    by_cases c2 : c % 8 = 3
    · rw [if_pos c2]
      exact pus_take ((pu_tTest (pu_eqI (pu_mod (pu_var rfl) (pu_int 8) (by decide)) (pu_int 3))).cast (decide_eq_true c2)) (pus_ret (pu_tup (pu_cons (pu_str _) (pu_cons (pu_var rfl) pu_nil)) (by simp)))
    rw [if_neg c2]
    refine pus_skip ((pu_tTest (pu_eqI (pu_mod (pu_var rfl) (pu_int 8) (by decide)) (pu_int 3))).cast (decide_eq_false c2)) ?_
    refine pus_set (d := (formN m (c / 8 * 16807 % 65539) b).toD) (pu_call (pu_cons (pu_mod (pu_mul (pu_var rfl) (pu_int _) (cmul16 _)) (pu_int _) (by decide)) (pu_cons (deep rfl) (pu_cons (pu_var rfl) pu_nil))) rfl ⟨_, b, m, rfl, by omega, rfl⟩) ?_
    exact pus_ret (pu_tup (pu_cons (pu_ixL (pu_lst (pu_cons (pu_str _) (pu_cons (pu_str _) (pu_cons (pu_str _) pu_nil))) (by simp)) (pu_mod (pu_var rfl) (pu_int 3) (by decide)) (bwN_at c)) (pu_cons (pu_var rfl) (pu_cons (pu_var rfl) pu_nil))) (by simp))
theorem all_formula (D : Df K mg "_law_formula" sFormula ["_law_cell", "_law_deep", "_law_base"] f fd) (h_law_sign : Has P w K mg base 2 "_law_sign" ["_law_k", "_law_base"] (spPu K 2 gSign)) : ∀ n : Nat, Has P w K mg base (n + 2) "_law_formula" ["_law_cell", "_law_deep", "_law_base"] (spPu K 3 (gFormula n))
  | 0 => by
    have no : ∀ vs H Q E, ¬ spPu K 3 (gFormula 0) vs H Q E := fun vs H Q E h => by
      obtain ⟨M, ds, d, _, _, _, ⟨_, _, m, _, hm, _⟩, _⟩ := h
      omega
    exact D.has ⟨fun vs H Q E h => absurd h (no vs H Q E), fun A outer s H args us vs Q E _ _ _ _ h => absurd h (no vs H Q E)⟩
  | n + 1 => D.has (ok_formula D h_law_sign (all_formula D h_law_sign n))
theorem scWith : FnScope ["_law_row", "_law_more", "_law_found", "_law_f"] ["_law_row", "_law_more"] (defScope sWith) := ⟨rfl, rfl, rfl, by decide +kernel, rfl, by decide +kernel, by decide +kernel⟩
theorem ok_with (D : Df K mg "_law_with" sWith ["_law_row", "_law_more"] f fd) : FnOk P w K mg base CX0 1 f fd ["_law_row", "_law_more"] (spPu K 2 gWith) := by
  refine ok_puo D scWith fun cdv A outer s H E hr => ?_
  have hu : (A.deeper (envOfC "_law_with" (defScope sWith) s.heap.objs.size f cdv)).units + 65 < cLine := by have := hr.un; omega
  refine ⟨_, (pss_cons (ps_set (i := 2) scWith.nd rfl (by first | exact Or.inl rfl | exact Or.inr rfl) (pe_lst pa_nil))
    (pss_cons (ps_for PassesOwn.never rfl (pi_list (pe_op (r := rCatL K) op_catL (pv 0) (pv 1))) (pg_name (i := 3) scWith.nd rfl (by first | exact Or.inl rfl | exact Or.inr rfl)) (pss_one (ps_if (pt_cmpR (r := rNotInD K) (op_notInD hu) (pv 3) (pv 2) (by rfl)) (pss_one (ps_expr (pe_bm PySem.F.plainAttrs_list PySem.F.slot_list_append PySem.F.type_list_append mt_append (pv 2) (pa_cons (pv 3) pa_nil)))) pss_nil)))
    (pss_one (ps_ret (pv 2))))), ?_⟩
  rintro ds d hl ⟨A, B, rfl, sA, sB, lA, lB, rfl⟩
  refine puo_new (ds := []) pu_nil (by decide) ?_
  generalize hL : A ++ B = L
  have hs : Sh L := by rw [← hL]; exact sh_app sA sB
  have hn : L.length ≤ 2000 := by rw [← hL, List.length_append]; omega
  refine puo_seq (ρ' := [some (.d (lsD A)), some (.d (lsD B)), some (.o ((once L).map Fm.toD)), none]) ?_ (puo_ret (pu_var rfl))
  refine puo_for (xs := L) (td := Fm.toD) (k := L.length) (fun i => [some (.d (lsD A)), some (.d (lsD B)), some (.o ((once (L.take i)).map Fm.toD)), none]) (pui_list ?_) rfl (Nat.le_refl _) (fun i x _ hx => ⟨_, pgo_name 3, .inl ?_⟩) (.inl ⟨rfl, by rw [List.take_length]⟩)
  · exact (pu_cat (pu_var rfl) (pu_var rfl) (by rw [List.length_map, List.length_map]; omega)).cast (by rw [← List.map_append, hL])
  have len := Nat.le_trans (once_len (L.take i)) (by rw [List.length_take]; omega : (L.take i).length ≤ 2000)
  refine puo_forget (ρ' := [some (.d (lsD A)), some (.d (lsD B)), some (.o ((once (L.take (i + 1))).map Fm.toD)), some (.d x.toD)]) 3 ?_
  refine puo_if (pu_tTest (pu_notInD (d := x.toD) (ds := (once (L.take i)).map Fm.toD) (pu_var rfl) (pu_var rfl) (sh_fm hs (List.mem_of_getElem? hx)) (sh_shaped (sh_once (sh_take hs i))))) (fun c => ?_) (fun c => ?_)
  · rw [any_fm] at c
    have c : ¬ x ∈ once (L.take i) := by simpa using c
    rw [once_take hx, if_neg c, List.map_append]
    exact puo_append (i := 2) rfl (by rw [List.length_map]; omega) (pu_var rfl)
  · rw [any_fm] at c
    have c : x ∈ once (L.take i) := by simpa using c
    rw [once_take hx, if_pos c]
    exact puo_next
theorem scWithout : FnScope ["_law_row", "_law_f", "_law_one"] ["_law_row", "_law_f"] (defScope sWithout) := ⟨rfl, rfl, rfl, by decide +kernel, rfl, by decide +kernel, by decide +kernel⟩
theorem ok_without (D : Df K mg "_law_without" sWithout ["_law_row", "_law_f"] f fd) : FnOk P w K mg base CX0 1 f fd ["_law_row", "_law_f"] (spPu K 2 gWithout) := by
  refine ok_pu D scWithout fun cdv A outer s H E hr => ?_
  have hu : (A.deeper (envOfC "_law_without" (defScope sWithout) s.heap.objs.size f cdv)).units + 65 < cLine := by have := hr.un; omega
  refine ⟨_, (pss_one (ps_ret (pe_lc (own := [("_law_one", 2)]) (g := gName 2) rfl scWithout.nd (pi_list (pv 0)) (blkOk_by (N := ["_law_row", "_law_f", "_law_one"]) (sc := defScope sWithout) (by decide +kernel)) (fun _ _ _ _ _ => (pg_name (i := 2) scWithout.nd rfl (by first | exact Or.inl rfl | exact Or.inr rfl))) (fun _ _ _ _ _ => (pts_one (pt_cmpR (r := rNeD K) (op_neD (Nat.lt_of_succ_lt hu)) (pv 2) (pv 1) (nomark _)))) (fun _ _ _ _ _ => (pv 2))))), ?_⟩
  rintro ds d hl ⟨A, g, rfl, sA, hg, lA, rfl⟩
  refine .inl (pus_ret ?_)
  refine pu_fil (xs := A) (td := Fm.toD) (pui_list (pu_var rfl)) (by omega) (fun x => !decide (x = g)) Fm.toD fun x hx => ⟨?_, fun _ => pu_var rfl⟩
  exact (pu_tTest (pu_neD (d := x.toD) (e := g.toD) (pu_var rfl) (pu_var rfl) (sh_fm sA hx) (shaped_fm g (by omega)))).cast (by rw [Fm.toD_eqv])
theorem scWithin : FnScope ["_law_one", "_law_other", "_law_f"] ["_law_one", "_law_other"] (defScope sWithin) := ⟨rfl, rfl, rfl, by decide +kernel, rfl, by decide +kernel, by decide +kernel⟩
theorem pu_allIn {ρ : Rho} {ta tb : TE} {j : Nat} {L R : List Fm} (h : PuE K ta ρ (lsD L)) (hs : Sh L) (hr : Sh R) (hn : L.length ≤ 2000) (hj : j < ρ.length) (h2 : ∀ x ∈ L, PuE K tb (ρ.set j (some x.toD)) (lsD R)) :
    PuE K (tCB (rAll K) (tCons (tLc (iList K ta) (gName j) tYes (tOp (rInD K) (tVar j) tb) [j]) tNil)) ρ (.bool (decide (∀ f ∈ L, f ∈ R))) := by
  have e : decide (∀ f ∈ L, f ∈ R) = (L.map fun f => decide (f ∈ R)).all id := by
    rw [all_dec]
    exact decide_eq_decide.mpr ⟨fun h f hf => decide_eq_true (h f hf), fun h f hf => of_decide_eq_true (h f hf)⟩
  rw [e]
  refine pu_all ?_
  rw [List.map_map]
  refine pu_map (xs := L) (td := Fm.toD) (pui_list h) (by omega) _ fun x hx => ?_
  refine (pu_inD (d := x.toD) (ds := R.map Fm.toD) (pu_var (by rw [List.getElem?_set_self hj])) (h2 x hx) (sh_fm hs hx) (sh_shaped hr)).cast ?_
  rw [any_fm]
  rfl
theorem ok_within (D : Df K mg "_law_within" sWithin ["_law_one", "_law_other"] f fd) (B : Blt mg) : FnOk P w K mg base CX0 1 f fd ["_law_one", "_law_other"] (spPu K 2 gStandsIn) := by
  refine ok_pu D scWithin fun cdv A outer s H E hr => ?_
  have hu : (A.deeper (envOfC "_law_within" (defScope sWithin) s.heap.objs.size f cdv)).units + 65 < cLine := by have := hr.un; omega
  refine ⟨_, (pss_one (ps_ret (pe_and (pe_callB (r := rAll K) (cr_all rfl) (by rfl) B.all bt_all (pa_cons (pe_lc (own := [("_law_f", 2)]) (g := gName 2) (tt := tYes) rfl scWithin.nd (pi_list (pe_ix (r := rIxT K) ix_tup (pv 0) pe_int (fun _ _ => rfl))) (blkOk_by (N := ["_law_one", "_law_other", "_law_f"]) (sc := defScope sWithin) (by decide +kernel)) (fun _ _ _ _ _ => (pg_name (i := 2) scWithin.nd rfl (by first | exact Or.inl rfl | exact Or.inr rfl))) (fun _ _ _ _ _ => pts_nil) (fun _ _ _ _ _ => (pe_cmpR (r := rInD K) (op_inD hu) (pv 2) (pe_ix (r := rIxT K) ix_tup (pv 1) pe_int (fun _ _ => rfl)) (by rfl)))) pa_nil)) (pe_one (pe_callB (r := rAll K) (cr_all rfl) (by rfl) B.all bt_all (pa_cons (pe_lc (own := [("_law_f", 2)]) (g := gName 2) (tt := tYes) rfl scWithin.nd (pi_list (pe_ix (r := rIxT K) ix_tup (pv 0) pe_int (fun _ _ => rfl))) (blkOk_by (N := ["_law_one", "_law_other", "_law_f"]) (sc := defScope sWithin) (by decide +kernel)) (fun _ _ _ _ _ => (pg_name (i := 2) scWithin.nd rfl (by first | exact Or.inl rfl | exact Or.inr rfl))) (fun _ _ _ _ _ => pts_nil) (fun _ _ _ _ _ => (pe_cmpR (r := rInD K) (op_inD hu) (pv 2) (pe_ix (r := rIxT K) ix_tup (pv 1) pe_int (fun _ _ => rfl)) (by rfl)))) pa_nil)))))), ?_⟩
  rintro ds d hl ⟨a, b, rfl, ha, hb, rfl⟩
  refine .inl (pus_ret ?_)
  have e : decide (Sub a b) = (decide (∀ f ∈ a.1, f ∈ b.1) && decide (∀ f ∈ a.2, f ∈ b.2)) := by
    rw [← Bool.decide_and]
    exact decide_eq_decide.mpr Iff.rfl
  rw [e]
  exact pu_and (pu_allIn (pu_ixT (ds := [lsD a.1, lsD a.2]) (pu_var rfl) (pu_int 0) (cix0 a)) ha.1 hb.1 (by have := ha.2.2.1; omega) (by show 2 < 3; decide) fun x hx => pu_ixT (ds := [lsD b.1, lsD b.2]) (pu_var rfl) (pu_int 0) (cix0 b))
    fun _ => pu_allIn (pu_ixT (ds := [lsD a.1, lsD a.2]) (pu_var rfl) (pu_int 1) (cix1 a)) ha.2.1 hb.2.1 (by have := ha.2.2.2; omega) (by show 2 < 3; decide) fun x hx => pu_ixT (ds := [lsD b.1, lsD b.2]) (pu_var rfl) (pu_int 1) (cix1 b)
theorem scSplit : FnScope ["_law_f", "_law_side_here"] ["_law_f", "_law_side_here"] (defScope sSplit) := ⟨rfl, rfl, rfl, by decide +kernel, rfl, by decide +kernel, by decide +kernel⟩
theorem ok_split (D : Df K mg "_law_split" sSplit ["_law_f", "_law_side_here"] f fd) : FnOk P w K mg base CX0 1 f fd ["_law_f", "_law_side_here"] (spPu K 2 gSplit) := by
  refine ok_pu D scSplit fun cdv A outer s H E hr => ?_
  refine ⟨_, (pss_cons (ps_if (pt_cmpR op_eq (pe_ix (r := rIxT K) ix_tup (pv 0) pe_int (fun _ _ => rfl)) pe_str (nomark _)) (pss_one (ps_ret (pe_ifExp (pt_cmpR op_eq (pv 1) pe_int (nomark _)) (pe_lst (pa_cons (pe_tup (pa_cons (pe_lst pa_nil) (pa_cons (pe_lst (pa_cons (pe_ix (r := rIxT K) ix_tup (pv 0) pe_int (fun _ _ => rfl)) pa_nil)) pa_nil))) pa_nil)) (pe_lst (pa_cons (pe_tup (pa_cons (pe_lst (pa_cons (pe_ix (r := rIxT K) ix_tup (pv 0) pe_int (fun _ _ => rfl)) pa_nil)) (pa_cons (pe_lst pa_nil) pa_nil))) pa_nil))))) pss_nil)
    (pss_cons (ps_if (pt_cmpR op_eq (pe_ix (r := rIxT K) ix_tup (pv 0) pe_int (fun _ _ => rfl)) pe_str (nomark _)) (pss_one (ps_ret (pe_ifExp (pt_cmpR op_eq (pv 1) pe_int (nomark _)) (pe_lst (pa_cons (pe_tup (pa_cons (pe_lst (pa_cons (pe_ix (r := rIxT K) ix_tup (pv 0) pe_int (fun _ _ => rfl)) (pa_cons (pe_ix (r := rIxT K) ix_tup (pv 0) pe_int (fun _ _ => rfl)) pa_nil))) (pa_cons (pe_lst pa_nil) pa_nil))) pa_nil)) (pe_lst (pa_cons (pe_tup (pa_cons (pe_lst pa_nil) (pa_cons (pe_lst (pa_cons (pe_ix (r := rIxT K) ix_tup (pv 0) pe_int (fun _ _ => rfl)) pa_nil)) pa_nil))) (pa_cons (pe_tup (pa_cons (pe_lst pa_nil) (pa_cons (pe_lst (pa_cons (pe_ix (r := rIxT K) ix_tup (pv 0) pe_int (fun _ _ => rfl)) pa_nil)) pa_nil))) pa_nil)))))) pss_nil)
    (pss_cons (ps_if (pt_cmpR op_eq (pe_ix (r := rIxT K) ix_tup (pv 0) pe_int (fun _ _ => rfl)) pe_str (nomark _)) (pss_one (ps_ret (pe_ifExp (pt_cmpR op_eq (pv 1) pe_int (nomark _)) (pe_lst (pa_cons (pe_tup (pa_cons (pe_lst (pa_cons (pe_ix (r := rIxT K) ix_tup (pv 0) pe_int (fun _ _ => rfl)) pa_nil)) (pa_cons (pe_lst pa_nil) pa_nil))) (pa_cons (pe_tup (pa_cons (pe_lst (pa_cons (pe_ix (r := rIxT K) ix_tup (pv 0) pe_int (fun _ _ => rfl)) pa_nil)) (pa_cons (pe_lst pa_nil) pa_nil))) pa_nil))) (pe_lst (pa_cons (pe_tup (pa_cons (pe_lst pa_nil) (pa_cons (pe_lst (pa_cons (pe_ix (r := rIxT K) ix_tup (pv 0) pe_int (fun _ _ => rfl)) (pa_cons (pe_ix (r := rIxT K) ix_tup (pv 0) pe_int (fun _ _ => rfl)) pa_nil))) pa_nil))) pa_nil))))) pss_nil)
    (pss_one (ps_ret (pe_ifExp (pt_cmpR op_eq (pv 1) pe_int (nomark _)) (pe_lst (pa_cons (pe_tup (pa_cons (pe_lst pa_nil) (pa_cons (pe_lst (pa_cons (pe_ix (r := rIxT K) ix_tup (pv 0) pe_int (fun _ _ => rfl)) pa_nil)) pa_nil))) (pa_cons (pe_tup (pa_cons (pe_lst (pa_cons (pe_ix (r := rIxT K) ix_tup (pv 0) pe_int (fun _ _ => rfl)) pa_nil)) (pa_cons (pe_lst pa_nil) pa_nil))) pa_nil))) (pe_lst (pa_cons (pe_tup (pa_cons (pe_lst (pa_cons (pe_ix (r := rIxT K) ix_tup (pv 0) pe_int (fun _ _ => rfl)) pa_nil)) (pa_cons (pe_lst (pa_cons (pe_ix (r := rIxT K) ix_tup (pv 0) pe_int (fun _ _ => rfl)) pa_nil)) pa_nil))) pa_nil)))))))), ?_⟩
  rintro ds d hl ⟨g, r, rfl, hs, rfl⟩
  left
  have side : ∀ {ρ : Rho}, ρ[1]? = some (some (.int (if r = true then 1 else 0))) → PuT K (tTest (tOp rEq (tVar 1) (tC (.int 0)))) ρ (!r) := fun h => (pu_tTest (pu_eqI (pu_var h) (pu_int 0))).cast (by cases r <;> rfl)
  cases g with
  | sg i => cases hs
  | no g =>
    refine pus_take (pu_eqS1 (pu_fm0 (f := .no g) rfl) (pu_str _) rfl) (pus_ret (pu_if (side rfl) (fun c => ?_) (fun c => ?_)))
    · have c : r = false := by simpa using c
      subst c
      exact pu_cs1 (pu_c pu_l0 (pu_l1 (pu_no1 rfl)))
    · have c : r = true := by simpa using c
      subst c
      exact pu_cs1 (pu_c (pu_l1 (pu_no1 rfl)) pu_l0)
  | bi b g h =>
    refine pus_skip (pu_eqS0 (pu_fm0 (f := .bi b g h) rfl) (pu_str _) (txt_not b)) ?_
    cases b with
    | an =>
      refine pus_take (pu_eqS1 (pu_fm0 (f := .bi .an g h) rfl) (pu_str _) rfl) (pus_ret (pu_if (side rfl) (fun c => ?_) (fun c => ?_)))
      · have c : r = false := by simpa using c
        subst c
        exact pu_cs1 (pu_c (pu_l2 (pu_bi1 (w := .an) rfl) (pu_bi2 (w := .an) rfl)) pu_l0)
      · have c : r = true := by simpa using c
        subst c
        exact pu_cs2 (pu_c pu_l0 (pu_l1 (pu_bi1 (w := .an) rfl))) (pu_c pu_l0 (pu_l1 (pu_bi2 (w := .an) rfl)))
    | o =>
      refine pus_skip (pu_eqS0 (pu_fm0 (f := .bi .o g h) rfl) (pu_str _) w_oa) (pus_take (pu_eqS1 (pu_fm0 (f := .bi .o g h) rfl) (pu_str _) rfl) (pus_ret (pu_if (side rfl) (fun c => ?_) (fun c => ?_))))
      · have c : r = false := by simpa using c
        subst c
        exact pu_cs2 (pu_c (pu_l1 (pu_bi1 (w := .o) rfl)) pu_l0) (pu_c (pu_l1 (pu_bi2 (w := .o) rfl)) pu_l0)
      · have c : r = true := by simpa using c
        subst c
        exact pu_cs1 (pu_c pu_l0 (pu_l2 (pu_bi1 (w := .o) rfl) (pu_bi2 (w := .o) rfl)))
    | th =>
      refine pus_skip (pu_eqS0 (pu_fm0 (f := .bi .th g h) rfl) (pu_str _) w_ta) (pus_skip (pu_eqS0 (pu_fm0 (f := .bi .th g h) rfl) (pu_str _) w_to) (pus_ret (pu_if (side rfl) (fun c => ?_) (fun c => ?_))))
      · have c : r = false := by simpa using c
        subst c
        exact pu_cs2 (pu_c pu_l0 (pu_l1 (pu_bi1 (w := .th) rfl))) (pu_c (pu_l1 (pu_bi2 (w := .th) rfl)) pu_l0)
      · have c : r = true := by simpa using c
        subst c
        exact pu_cs1 (pu_c (pu_l1 (pu_bi1 (w := .th) rfl)) (pu_l1 (pu_bi2 (w := .th) rfl)))
end
end Lm
set_option Elab.async false
set_option linter.all false
set_option maxRecDepth 100000
set_option maxHeartbeats 400000
namespace Lm
open PySem PySem.Spec PyProof.Rows L2
section
variable {K : PySem.W.Frag} {ρ : Rho} {te ta tb : TE}
theorem pu_intB {b : Bool} (h : PuE K te ρ (.bool b)) : PuE K (tCB (fun xs H Q => (∃ i, xs = [V.int i] ∧ Q (.int i) H) ∨ ∃ k, xs = [V.bl k] ∧ Q (.int (if k then 1 else 0)) H) (tCons te tNil)) ρ (.int (if b = true then 1 else 0)) := fun M σ H hid en Q q =>
  h M σ H hid en _ fun v H1 e1 hv => .inr ⟨b, by rw [dp_blI hv], q _ H1 e1 (.int _)⟩
end
theorem ixN_nat {n j : Nat} (h : j < n) : ixN n (j : Int) = some j := by
  unfold ixN
  rw [if_pos (by omega), if_pos (by omega)]
  simp
theorem dpAll_set {K : PySem.W.Frag} {H : Hp} {v : V} {d : PyData} : ∀ {vs : List V} {ds : List PyData} (n : Nat), DpAll K H vs ds → Dp K H v d → DpAll K H (vs.set n v) (ds.set n d)
  | _, _, _, .nil, _ => .nil
  | _, _, 0, .cons h1 h2, h => .cons h h2
  | _, _, n + 1, .cons h1 h2, h => .cons h1 (dpAll_set n h2 h)
theorem rows_set {K : PySem.W.Frag} {ρ : RhoO} {i j k n : Nat} {ds : List PyData} {A : List Fm} {g : Fm} (hi : ρ[i]? = some (some (.o ds))) (hj : ρ[j]? = some (some (.d (.int (n : Int))))) (hk : ρ[k]? = some (some (.d g.toD))) (hn : ds[n]? = some (lsD A)) (sA : Sh A) (hg : g.dep ≤ 60) (lA : A.length ≤ 2000) :
    PuO K (tAsg (tCall (spPu K 2 gWithout) [] E0 (tCons (tOp (rIxL K) (tVar i) (tVar j)) (tCons (tVar k) tNil))) (gSub (tVar i) (tVar j) rSetL)) ρ (.nx (ρ.set i (some (.o (ds.set n (lsD (without A g))))))) := fun M H0 H σ ⟨M', en⟩ D q => by
  obtain ⟨p, vs, a, b, c1, c2, c3, c4⟩ := en.own i ds hi
  obtain ⟨vj, aj, bj⟩ := en.dat j _ hj
  obtain ⟨vk, ak, bk⟩ := en.dat k _ hk
  obtain rfl := dp_intI bj
  obtain ⟨x, hx, dx⟩ := dpAll_at c4 hn
  have nl : n < vs.length := (List.getElem?_eq_some_iff.mp hx).1
  refine ⟨.ref p, a, .int n, aj, p, vs, n, x, rfl, rfl, SqL.of b, atI_nat hx, vk, ak, M', [lsD A, g.toD], lsD (without A g), en.hid, rfl, .cons dx (.cons bk .nil), ⟨A, g, rfl, sA, hg, lA, rfl⟩, fun v H1 e1 hv => ?_⟩
  have en1 := en.next e1
  refine ⟨.ref p, a, .int n, aj, p, vs, n, n, rfl, rfl, e1 _ _ b, ?_, q σ _ ⟨M', en1.write hi a ?_⟩⟩
  · exact ixN_nat nl
  · exact dpAll_set n (dpAll_same (vis_same e1) _ _ c4) hv
theorem lcl {c : Cl} (h : LowC c) : LowC (once c.1, once c.2) := ⟨sh_once h.1, sh_once h.2.1, Nat.le_trans (once_len _) h.2.2.1, Nat.le_trans (once_len _) h.2.2.2⟩
section
variable {P : Program} {w : World} {K : PySem.W.Frag} {mg : Str → Option Value} {base : Heap} {f : Addr} {fd : FuncData}
theorem scLWanted : FnScope ["_law_claim_here", "_law_rule_here", "_law_rows", "_law_f", "_law_side_here", "_law_one"] ["_law_claim_here", "_law_rule_here"] (defScope sLWanted) := ⟨rfl, rfl, rfl, by decide +kernel, rfl, by decide +kernel, by decide +kernel⟩
theorem pu_with {ρ : Rho} {ta tb : TE} {A B : List Fm} (h : PuE K ta ρ (lsD A)) (k : PuE K tb ρ (lsD B)) (sA : Sh A) (sB : Sh B) (lA : A.length ≤ 1000) (lB : B.length ≤ 1000) : PuE K (tCall (spPu K 2 gWith) [] E0 (tCons ta (tCons tb tNil))) ρ (lsD (once (A ++ B))) :=
  pu_call (pu_cons h (pu_cons k pu_nil)) rfl ⟨A, B, rfl, sA, sB, lA, lB, rfl⟩
theorem sh_nil : Sh [] := fun _ h => nomatch h
theorem sh_one {f : Fm} (h : f.dep ≤ 60) : Sh [f] := fun g hg => by rw [List.mem_singleton.mp hg]; exact h
theorem ok_lwanted (D : Df K mg "_law_wanted" sLWanted ["_law_claim_here", "_law_rule_here"] f fd) (B : Blt mg) (h_law_with : Has P w K mg base 1 "_law_with" ["_law_row", "_law_more"] (spPu K 2 gWith)) (h_law_without : Has P w K mg base 1 "_law_without" ["_law_row", "_law_f"] (spPu K 2 gWithout)) (h_law_within : Has P w K mg base 1 "_law_within" ["_law_one", "_law_other"] (spPu K 2 gStandsIn)) (h_law_split : Has P w K mg base 1 "_law_split" ["_law_f", "_law_side_here"] (spPu K 2 gSplit)) :
    FnOk P w K mg base CX0 2 f fd ["_law_claim_here", "_law_rule_here"] (spPu K 2 gLWanted) := by
  refine ok_puo D scLWanted fun cdv A outer s H E hr => ?_
  have hu : (A.deeper (envOfC "_law_wanted" (defScope sLWanted) s.heap.objs.size f cdv)).units + 65 < cLine := by have := hr.un; omega
  refine ⟨_, (pss_cons (ps_set (i := 2) scLWanted.nd rfl (by first | exact Or.inl rfl | exact Or.inr rfl) (pe_lst (pa_cons (pe_callH h_law_with (hr.mono (by omega)) (by rfl) (pa_cons (pe_ix (r := rIxT K) ix_tup (pv 0) pe_int (fun _ _ => rfl)) (pa_cons (pe_lst pa_nil) pa_nil))) (pa_cons (pe_callH h_law_with (hr.mono (by omega)) (by rfl) (pa_cons (pe_ix (r := rIxT K) ix_tup (pv 0) pe_int (fun _ _ => rfl)) (pa_cons (pe_lst pa_nil) pa_nil))) pa_nil))))
    (pss_cons (ps_set (i := 3) scLWanted.nd rfl (by first | exact Or.inl rfl | exact Or.inr rfl) (pe_ix (r := rIxT K) ix_tup (pv 1) pe_int (fun _ _ => rfl)))
    (pss_cons (ps_if (pt_cmpR op_eq (pe_ix (r := rIxT K) ix_tup (pv 1) pe_int (fun _ _ => rfl)) pe_str (nomark _)) (pss_one (ps_ret (pe_ifExp (pt_val (pe_callH h_law_within (hr.mono (by omega)) (by rfl) (pa_cons (pv 3) (pa_cons (pv 0) pa_nil)))) (pe_lst (pa_cons (pv 3) pa_nil)) pe_non))) pss_nil)
    (pss_cons (ps_if (pt_cmpR op_eq (pe_ix (r := rIxT K) ix_tup (pv 1) pe_int (fun _ _ => rfl)) pe_str (nomark _)) (pss_one (ps_ret (pe_lst (pa_cons (pe_tup (pa_cons (pe_ix (r := rIxL K) ix_list (pv 2) pe_int (fun _ _ => rfl)) (pa_cons (pe_callH h_law_with (hr.mono (by omega)) (by rfl) (pa_cons (pe_ix (r := rIxL K) ix_list (pv 2) pe_int (fun _ _ => rfl)) (pa_cons (pe_lst (pa_cons (pv 3) pa_nil)) pa_nil))) pa_nil))) (pa_cons (pe_tup (pa_cons (pe_callH h_law_with (hr.mono (by omega)) (by rfl) (pa_cons (pe_ix (r := rIxL K) ix_list (pv 2) pe_int (fun _ _ => rfl)) (pa_cons (pe_lst (pa_cons (pv 3) pa_nil)) pa_nil))) (pa_cons (pe_ix (r := rIxL K) ix_list (pv 2) pe_int (fun _ _ => rfl)) pa_nil))) pa_nil))))) pss_nil)
    (pss_cons (ps_if (pt_cmpR op_eq (pe_ix (r := rIxT K) ix_tup (pv 1) pe_int (fun _ _ => rfl)) pe_str (nomark _)) (pss_one (ps_ret (pe_ifExp (PW.pt (pw_and (pt_cmpR (r := rInD K) (op_inD hu) (pv 3) (pe_ix (r := rIxL K) ix_list (pv 2) pe_int (fun _ _ => rfl)) (by rfl)) (pw_and1 (pt_cmpR (r := rInD K) (op_inD hu) (pv 3) (pe_ix (r := rIxL K) ix_list (pv 2) pe_int (fun _ _ => rfl)) (by rfl))))) (pe_lst pa_nil) pe_non))) pss_nil)
    (pss_cons (ps_set (i := 4) scLWanted.nd rfl (by first | exact Or.inl rfl | exact Or.inr rfl) (pe_callTy call_int1 (by rfl) B.int bt_int (pa_cons (pe_cmpR op_eq (pe_ix (r := rIxT K) ix_tup (pv 1) pe_int (fun _ _ => rfl)) pe_str (nomark _)) pa_nil)))
    (pss_cons (ps_if (PW.pt (pw_or (pt_cmpR (r := rNotInD K) (op_notInD hu) (pv 3) (pe_ix (r := rIxL K) ix_list (pv 2) (pv 4) (fun _ _ => rfl)) (by rfl)) (pw_or1 (pt_cmpR op_eq (pe_ix (r := rIxT K) ix_tup (pv 3) pe_int (fun _ _ => rfl)) pe_str (nomark _))))) (pss_one (ps_ret pe_non)) pss_nil)
    (pss_cons (ps_asg (pe_callH h_law_without (hr.mono (by omega)) (by rfl) (pa_cons (pe_ix (r := rIxL K) ix_list (pv 2) (pv 4) (fun _ _ => rfl)) (pa_cons (pv 3) pa_nil))) (pg_sub (pv 2) (pv 4) set_list))
    (pss_one (ps_ret (pe_lc (own := [("_law_one", 5)]) (g := gName 5) (tt := tYes) rfl scLWanted.nd (pi_list (pe_callH h_law_split (hr.mono (by omega)) (by rfl) (pa_cons (pv 3) (pa_cons (pv 4) pa_nil)))) (blkOk_by (N := ["_law_claim_here", "_law_rule_here", "_law_rows", "_law_f", "_law_side_here", "_law_one"]) (sc := defScope sLWanted) (by decide +kernel)) (fun _ _ _ _ _ => (pg_name (i := 5) scLWanted.nd rfl (by first | exact Or.inl rfl | exact Or.inr rfl))) (fun _ _ _ _ _ => pts_nil) (fun _ _ _ _ _ => (pe_tup (pa_cons (pe_callH h_law_with (hr.mono (by omega)) (by rfl) (pa_cons (pe_ix (r := rIxL K) ix_list (pv 2) pe_int (fun _ _ => rfl)) (pa_cons (pe_ix (r := rIxT K) ix_tup (pv 5) pe_int (fun _ _ => rfl)) pa_nil))) (pa_cons (pe_callH h_law_with (hr.mono (by omega)) (by rfl) (pa_cons (pe_ix (r := rIxL K) ix_list (pv 2) pe_int (fun _ _ => rfl)) (pa_cons (pe_ix (r := rIxT K) ix_tup (pv 5) pe_int (fun _ _ => rfl)) pa_nil))) pa_nil))))))))))))))), ?_⟩
  rintro ds d hl ⟨c, ru, rfl, hc, hru, rfl⟩
  have lo := lcl hc
  have row0 : ∀ {ρ : Rho}, ρ[0]? = some (some c.toD) → PuE K (tCall (spPu K 2 gWith) [] E0 (tCons (tOp (rIxT K) (tVar 0) (tC (.int 0))) (tCons (tLst tNil) tNil))) ρ (lsD (once c.1)) := fun h =>
    (pu_with (A := c.1) (B := []) (pu_ixT (ds := [lsD c.1, lsD c.2]) (pu_var h) (pu_int 0) (cix0 c)) pu_l0 hc.1 sh_nil hc.2.2.1 (by decide)).cast (by rw [List.append_nil])
  have row1 : ∀ {ρ : Rho}, ρ[0]? = some (some c.toD) → PuE K (tCall (spPu K 2 gWith) [] E0 (tCons (tOp (rIxT K) (tVar 0) (tC (.int 1))) (tCons (tLst tNil) tNil))) ρ (lsD (once c.2)) := fun h =>
    (pu_with (A := c.2) (B := []) (pu_ixT (ds := [lsD c.1, lsD c.2]) (pu_var h) (pu_int 1) (cix1 c)) pu_l0 hc.2.1 sh_nil hc.2.2.2 (by decide)).cast (by rw [List.append_nil])
  refine puo_new (ds := [lsD (once c.1), lsD (once c.2)]) (pu_cons (row0 rfl) (pu_cons (row1 rfl) pu_nil)) (by simp) ?_
  -- the rows' items
  have it0 : ∀ {ρ : Rho} {L R : List Fm}, ρ[2]? = some (some (.list [lsD L, lsD R])) → PuE K (tOp (rIxL K) (tVar 2) (tC (.int 0))) ρ (lsD L) := fun h => pu_ixL (ds := [lsD _, lsD _]) (pu_var h) (pu_int 0) (tix0 _ _ _)
  have it1 : ∀ {ρ : Rho} {L R : List Fm}, ρ[2]? = some (some (.list [lsD L, lsD R])) → PuE K (tOp (rIxL K) (tVar 2) (tC (.int 1))) ρ (lsD R) := fun h => pu_ixL (ds := [lsD _, lsD _]) (pu_var h) (pu_int 1) (tix1 _ _ _)
  cases ru with
  | more m =>
    have hm : LowC m := hru
    have r0 : ∀ {ρ : Rho}, ρ[1]? = some (some (Ru.more m).toD) → PuE K (tOp (rIxT K) (tVar 1) (tC (.int 0))) ρ (.str ("more" : Str)) := fun h => pu_ixT (ds := [.str ("more" : Str), m.toD]) (pu_var h) (pu_int 0) (tix0 _ _ _)
    refine puo_set (d := m.toD) (pu_ixT (ds := [.str ("more" : Str), m.toD]) (pu_var rfl) (pu_int 1) (tix1 _ _ _)) ?_
    refine puo_ifr (b := true) ((pu_tTest (pu_eqS (r0 rfl) (pu_str _))).cast (decide_eq_true rfl)) (fun _ => ⟨_, rfl, puo_ret (pu_if (pu_tB (pu_call (pu_cons (pu_var rfl) (pu_cons (pu_var rfl) pu_nil)) rfl ⟨m, c, rfl, hm, hc, rfl⟩)) (fun z => ?_) (fun z => ?_))⟩) (fun z => nomatch z)
    · rw [lwants, if_pos (of_decide_eq_true z)]
      exact pu_cs1 (pu_var rfl)
    · rw [lwants, if_neg (of_decide_eq_false z)]
      exact pu_non
  | fm v g =>
    have hg : g.dep ≤ 60 := hru
    have r0 : ∀ {ρ : Rho}, ρ[1]? = some (some (Ru.fm v g).toD) → PuE K (tOp (rIxT K) (tVar 1) (tC (.int 0))) ρ (.str v.txt) := fun h => pu_ixT (ds := [.str v.txt, g.toD]) (pu_var h) (pu_int 0) (tix0 _ _ _)
    have rw0 : ∀ {ρ : Rho} {z : Str}, ρ[1]? = some (some (Ru.fm v g).toD) → PuT K (tTest (tOp rEq (tOp (rIxT K) (tVar 1) (tC (.int 0))) (tC (.str z)))) ρ (decide (v.txt = z)) := fun h => pu_tTest (pu_eqS (r0 h) (pu_str _))
    refine puo_set (d := g.toD) (pu_ixT (ds := [.str v.txt, g.toD]) (pu_var rfl) (pu_int 1) (tix1 _ _ _)) ?_
    refine puo_ifr (b := false) ((rw0 rfl).cast (decide_eq_false (wtxt_more v))) (fun z => nomatch z) fun _ => ?_
    have sg1 : Sh [g] := sh_one hg
    refine puo_ifr (rw0 rfl) (fun z => ?_) (fun z => ?_)
    · have z : v = .lem := wtxt_inj (of_decide_eq_true z)
      subst z
      refine ⟨_, rfl, puo_ret (pu_cs2 (pu_c (it0 rfl) (pu_with (it1 rfl) (pu_l1 (pu_var rfl)) lo.2.1 sg1 lo.2.2.2 (by simp))) (pu_c (pu_with (it0 rfl) (pu_l1 (pu_var rfl)) lo.1 sg1 lo.2.2.1 (by simp)) (it1 rfl)))⟩
    have nl : ¬ v = .lem := fun y => by rw [y] at z; exact absurd (of_decide_eq_false z) (fun n => n rfl)
    have shg : SeqAt.shaped g.toD = true := shaped_fm g (by omega)
    refine puo_ifr (rw0 rfl) (fun z => ?_) (fun z => ?_)
    · have z : v = .same := wtxt_inj (of_decide_eq_true z)
      subst z
      refine ⟨_, rfl, puo_ret (pu_if (b := decide (g ∈ once c.1) && decide (g ∈ once c.2)) (pu_tAnd ((pu_tTest (pu_inD (pu_var rfl) (it0 rfl) shg (sh_shaped lo.1))).cast (by rw [any_fm])) fun _ => (pu_tTest (pu_inD (pu_var rfl) (it1 rfl) shg (sh_shaped lo.2.1))).cast (by rw [any_fm])) (fun z => ?_) (fun z => ?_))⟩
      · rw [Bool.and_eq_true, decide_eq_true_eq, decide_eq_true_eq] at z
        rw [lwants, if_pos z]
        exact pu_lst (ds := []) pu_nil (by decide)
      · rw [lwants, if_neg fun y => by rw [decide_eq_true y.1, decide_eq_true y.2] at z; cases z]
        exact pu_non
    have ns : ¬ v = .same := fun y => by rw [y] at z; exact absurd (of_decide_eq_false z) (fun n => n rfl)
    have two : v = .left ∨ v = .right := by cases v <;> first | exact .inl rfl | exact .inr rfl | exact absurd rfl nl | exact absurd rfl ns
    obtain ⟨r, hr'⟩ : ∃ r : Bool, v = if r = true then .right else .left := by
      rcases two with z | z
      · exact ⟨false, z⟩
      · exact ⟨true, z⟩
    have side : decide (v.txt = ("right" : Str)) = r := by
      subst hr'
      cases r <;> decide +kernel
    refine puo_setF (d := .int (if r = true then 1 else 0)) rfl ((pu_intB (pu_eqS (r0 rfl) (pu_str _))).cast (by rw [side])) ?_
    generalize hA : (if r = true then once c.2 else once c.1) = A
    have sA : Sh A ∧ A.length ≤ 1000 := by
      rw [← hA]
      cases r
      · exact ⟨lo.1, lo.2.2.1⟩
      · exact ⟨lo.2.1, lo.2.2.2⟩
    have itA : ∀ {ρ : Rho}, ρ[2]? = some (some (.list [lsD (once c.1), lsD (once c.2)])) → ρ[4]? = some (some (.int (if r = true then 1 else 0))) → PuE K (tOp (rIxL K) (tVar 2) (tVar 4)) ρ (lsD A) := fun h h4 => by
      rw [← hA]
      cases r
      · exact pu_ixL (ds := [lsD (once c.1), lsD (once c.2)]) (pu_var h) (pu_var h4) (tix0 _ _ _)
      · exact pu_ixL (ds := [lsD (once c.1), lsD (once c.2)]) (pu_var h) (pu_var h4) (tix1 _ _ _)
    have lw : lwants c (.fm v g) = if g ∈ A ∧ g.isSg = false then some ((if r = true then putR g else putL g).map fun p => (once ((if r = true then once c.1 else without (once c.1) g) ++ p.1), once ((if r = true then without (once c.2) g else once c.2) ++ p.2))) else none := by
      rw [hr', ← hA]
      cases r <;> rfl
    refine puo_ifr (b := !decide (g ∈ A) || g.isSg) (pu_tOr ((pu_tTest (pu_notInD (pu_var rfl) (itA rfl rfl) shg (sh_shaped sA.1))).cast (by rw [any_fm])) fun _ => (pu_tTest (pu_eqS (pu_fm0 rfl) (pu_str _))).cast (wd_sg g)) (fun z => ?_) (fun z => ?_)
    · rw [lw, if_neg fun y => by rw [decide_eq_true y.1, y.2] at z; cases z]
      exact ⟨_, rfl, puo_ret pu_non⟩
    · have z1 : g ∈ A ∧ g.isSg = false := by simpa using z
      rw [lw, if_pos z1]
      have lenp : ((if r = true then putR g else putL g)).length ≤ 2 := by cases r with | false => exact putIn_len .left g | true => exact putIn_len .right g
      have nd : (if r = true then (1 : Int) else 0) = ((if r = true then 1 else 0 : Nat) : Int) := by cases r <;> rfl
      refine puo_seq (rows_set (i := 2) (j := 4) (k := 3) (n := if r = true then 1 else 0) (A := A) (g := g) rfl (by rw [← nd]; rfl) rfl (by rw [← hA]; cases r <;> rfl) sA.1 hg (by omega)) (puo_ret ?_)
      have e2 : ∀ n : Nat, n = (if r = true then 1 else 0) → [lsD (once c.1), lsD (once c.2)].set n (lsD (without A g)) = [lsD (if r = true then once c.1 else without (once c.1) g), lsD (if r = true then without (once c.2) g else once c.2)] := fun n hn => by
        rw [hn, ← hA]
        cases r <;> rfl
      rw [e2 _ rfl]
      dsimp only [optD]
      rw [List.map_map]
      refine pu_map (xs := if r = true then putR g else putL g) (td := Cl.toD) (pui_list ?_) (by omega) _ fun p hp => ?_
      · exact pu_call (pu_cons (pu_var rfl) (pu_cons (pu_var rfl) pu_nil)) rfl ⟨g, r, rfl, z1.2, rfl⟩
      · have low : Sh p.1 ∧ Sh p.2 ∧ p.1.length ≤ 2 ∧ p.2.length ≤ 2 := by
          cases r
          · exact putIn_low (w := .left) hg hp
          · exact putIn_low (w := .right) hg hp
        have sL : Sh (if r = true then once c.1 else without (once c.1) g) ∧ (if r = true then once c.1 else without (once c.1) g).length ≤ 1000 := by
          cases r
          · exact ⟨sh_without lo.1 g, Nat.le_trans (without_len _ _) lo.2.2.1⟩
          · exact ⟨lo.1, lo.2.2.1⟩
        have sR : Sh (if r = true then without (once c.2) g else once c.2) ∧ (if r = true then without (once c.2) g else once c.2).length ≤ 1000 := by
          cases r
          · exact ⟨lo.2.1, lo.2.2.2⟩
          · exact ⟨sh_without lo.2.1 g, Nat.le_trans (without_len _ _) lo.2.2.2⟩
        exact pu_c (pu_with (it0 rfl) (pu_ixT (ds := [lsD p.1, lsD p.2]) (pu_var rfl) (pu_int 0) (cix0 p)) sL.1 low.1 sL.2 (by omega)) (pu_with (it1 rfl) (pu_ixT (ds := [lsD p.1, lsD p.2]) (pu_var rfl) (pu_int 1) (cix1 p)) sR.1 low.2.1 sR.2 (by omega))
theorem scLWords : FnScope ["_law_f", "_law_inner"] ["_law_f"] (defScope sLWords) := ⟨rfl, rfl, rfl, by decide +kernel, rfl, by decide +kernel, by decide +kernel⟩
theorem pu_tail {ρ : Rho} {te : TE} {d0 : PyData} {ds : List PyData} (h : PuE K te ρ (.tuple (d0 :: ds))) : PuE K (tSl (rSlT K) te (tPart (tC (.int 1))) tNoPart) ρ (.tuple ds) := fun M σ H hid en Q q => h M σ H hid en _ fun v H1 e1 hv => by
  obtain ⟨a, vs, rfl, hs, ha⟩ := dp_tupI hv
  cases ha with
  | @cons x xs _ _ h1 h2 =>
    refine ⟨1, rfl, a, _, rfl, sqT_same vis_sub hs, cutNot _ _, fun p np => ?_⟩
    rw [cut1a]
    exact q (.ref p) _ (e1.trans (same_new np _)) (.tup (SqT.of (vis_new (hid.same e1) np)) (dpAll_same (vis_same (same_new np _)) _ _ h2))
def tailD : Fm → List PyData
  | .sg i => [.int i]
  | .no g => [g.toD]
  | .bi _ g h => [g.toD, h.toD]
theorem toD_tail (g : Fm) : g.toD = .tuple (.str g.wd :: tailD g) := by cases g <;> rfl
theorem isTu_fm (g : Fm) : isTu g.toD = true := by cases g <;> rfl
theorem tail_sum (g : Fm) : 1 + (((tailD g).filter isTu).map fun d => (sizeD d : Int)).sum = (g.size : Int) := by
  cases g with
  | sg i => rfl
  | no g =>
    have e : (tailD (.no g)).filter isTu = [g.toD] := by
      show [g.toD].filter isTu = _
      rw [List.filter_cons_of_pos (isTu_fm g)]
      rfl
    rw [e]
    show 1 + ((sizeD g.toD : Int) + 0) = ((g.size + 1 : Nat) : Int)
    rw [sizeD_fm]
    omega
  | bi b g h =>
    have e : (tailD (.bi b g h)).filter isTu = [g.toD, h.toD] := by
      show [g.toD, h.toD].filter isTu = _
      rw [List.filter_cons_of_pos (isTu_fm g), List.filter_cons_of_pos (isTu_fm h)]
      rfl
    rw [e]
    show 1 + ((sizeD g.toD : Int) + ((sizeD h.toD : Int) + 0)) = ((g.size + h.size + 1 : Nat) : Int)
    rw [sizeD_fm, sizeD_fm]
    omega
theorem tail_len (g : Fm) : (tailD g).length ≤ 2 := by cases g <;> simp [tailD]
theorem tail_fm {g : Fm} {d : PyData} (h : d ∈ tailD g) (t : isTu d = true) : ∃ k : Fm, d = k.toD ∧ k ∈ g.kids := by
  cases g with
  | sg i =>
    rw [List.mem_singleton.mp h] at t
    cases t
  | no g => exact ⟨g, List.mem_singleton.mp h, List.mem_singleton.mpr rfl⟩
  | bi b g k =>
    rcases List.mem_cons.mp h with rfl | h
    · exact ⟨g, rfl, List.mem_cons_self⟩
    · exact ⟨k, List.mem_singleton.mp h, List.mem_cons_of_mem _ List.mem_cons_self⟩
theorem ok_lwords {n : Nat} (D : Df K mg "_law_words" sLWords ["_law_f"] f fd) (B : Blt mg) (b_sum : mg "sum" = none) (h_law_words : Has P w K mg base (n + 1) "_law_words" ["_law_f"] (spPu K 1 (gLWords n))) : FnOk P w K mg base CX0 (n + 2) f fd ["_law_f"] (spPu K 1 (gLWords (n + 1))) := by
  refine ok_pu D scLWords fun cdv A outer s H E hr => ?_
  refine ⟨_, (pss_one (ps_ret (pe_op op_add pe_int (pe_callB (r := rSum K) (cr_sum rfl) (by rfl) b_sum bt_sum (pa_cons (pe_lc (own := [("_law_inner", 1)]) (g := gName 1) rfl scLWords.nd (pi_tup (pe_slice sl_tup (pv 0) (po_some pe_int) po_none)) (blkOk_by (N := ["_law_f", "_law_inner"]) (sc := defScope sLWords) (by decide +kernel)) (fun _ _ _ _ _ => (pg_name (i := 1) scLWords.nd rfl (by first | exact Or.inl rfl | exact Or.inr rfl))) (fun _ _ _ _ _ => (pts_one (pt_val (pe_callB (r := rIsi K) call_isi (by rfl) B.isinstance bt_isinstance (pa_cons (pv 1) (pa_cons (pe_bltn (v := .ty "tuple") (by rfl) B.tuple bt_tuple rfl) pa_nil)))))) (fun _ _ _ _ _ => (pe_callH h_law_words (hr.mono (by omega)) (by rfl) (pa_cons (pv 1) pa_nil)))) pa_nil))))), ?_⟩
  rintro ds d hl ⟨g, rfl, hg, rfl⟩
  left
  refine pus_ret ((pu_add (pu_int 1) (pu_sum (ns := ((tailD g).filter isTu).map fun d => (sizeD d : Int)) ?_)).cast (by rw [tail_sum]))
  rw [List.map_map]
  refine pu_fil (xs := tailD g) (td := id) (pui_tup ?_) (Nat.le_trans (tail_len g) (by decide)) isTu _ fun x hx => ⟨?_, fun t => ?_⟩
  · rw [List.map_id]
    exact pu_tail (d0 := .str g.wd) ((pu_var rfl).cast (toD_tail g))
  · exact pu_tB (pu_isTup (pu_var rfl))
  · obtain ⟨k, rfl, hk⟩ := tail_fm hx t
    have := kid_dep hk
    exact pu_call (pu_cons (pu_var rfl) pu_nil) rfl ⟨k, rfl, by omega, by show PyData.int (sizeD k.toD : Int) = _; rw [sizeD_fm]⟩
theorem all_lwords (D : Df K mg "_law_words" sLWords ["_law_f"] f fd) (B : Blt mg) (b_sum : mg "sum" = none) : ∀ n : Nat, Has P w K mg base (n + 1) "_law_words" ["_law_f"] (spPu K 1 (gLWords n))
  | 0 => by
    have no : ∀ vs H Q E, ¬ spPu K 1 (gLWords 0) vs H Q E := fun vs H Q E h => by
      obtain ⟨M, ds, d, _, _, _, ⟨_, _, hm, _⟩, _⟩ := h
      omega
    exact D.has ⟨fun vs H Q E h => absurd h (no vs H Q E), fun A outer s H args us vs Q E _ _ _ _ h => absurd h (no vs H Q E)⟩
  | n + 1 => D.has (ok_lwords D B b_sum (all_lwords D B b_sum n))
end
end Lm
set_option Elab.async false
set_option linter.all false
set_option maxRecDepth 100000
set_option maxHeartbeats 400000
namespace Lm
open PySem PySem.Spec PyProof.Rows L2
def spLaw (K : PySem.W.Frag) : Sp := fun vs H Q _ => ∃ (a : Addr) (ns : List Int), vs = [.ref a] ∧ SqL K H a (ns.map V.int) ∧ ns.length ≤ 63 ∧ ∀ H', Q (.bl true) H'
/-- wanted, of a claim -/
def spWantedC (K : PySem.W.Frag) : Sp := fun vs H Q _ => ∃ (v u : V) (c : Cl) (d : PyData), vs = [v, u] ∧ Dp K H v c.toD ∧ Dp K H u d ∧ GdC c ∧ wordsC c ≤ 60 ∧ shortR d ∧
  (∀ ru : Ru, d = ru.toD → ru.ok → fits c ru = true → ∀ p ys H', Same H H' → H p = none → H' p = some (.lst ys) → Paired (NewCl K (upd H p (.lst [])) H') ys (wants c ru) → Q (.ref p) H') ∧
  ((∀ ru : Ru, d = ru.toD → ru.ok → fits c ru = false) → ∀ H', Same H H' → Q .non H')
theorem calm_wanted {P : Program} {w : World} {K : PySem.W.Frag} {mg : Str → Option Value} {base : Heap} {k : Nat} {C0 : Addr} (h : HasN P w K mg base k "wanted" ["claim", "rule"] (spWanted K C0)) : Has P w K mg base k "wanted" ["claim", "rule"] (spWantedC K) := by
  refine h.calm fun vs H Q E q => ?_
  obtain ⟨v, u, c, d, rfl, hv, hu, gc, wc, sr, q1, q2⟩ := q
  refine ⟨v, u, c.toD, d, rfl, hv, hu, cl_short wc, sr, fun c' e g' w' => ?_, fun n => ?_⟩
  · obtain rfl := clD_inj e
    exact ⟨q1, q2⟩
  · rw [isC_cl gc, decide_eq_true wc] at n
    cases n
theorem newcls_vis {K : PySem.W.Frag} {M : Addr → Bool} {H H' : Hp} {p : Addr} (hid : Hid M H) (e : Same H H') : ∀ {ys : List V} {cs : List Cl}, Paired (NewCl K (upd H p (.lst [])) H') ys cs → (∀ q, upd H p (.lst []) q = none → H q = none) → DpAll K (vis M H') ys (cs.map Cl.toD)
  | _, _, .nil, _ => .nil
  | _, _, .cons h t, o => by
    refine .cons ?_ (newcls_vis hid e t o)
    obtain ⟨t, a, b, xs, ys, h1, h2, h3, h4, h5⟩ := h
    exact NewCl.vis hid e ⟨t, a, b, xs, ys, h1, h2, o a h3, o b h4, h5⟩
theorem upd_none {H : Hp} {p q : Addr} {o : HO} (h : upd H p o q = none) : H q = none := by
  by_cases z : q = p
  · rw [z, upd_same] at h; cases h
  · rw [upd_ne z] at h; exact h
/-- what wanted tells -/
def WantD (c : Cl) (d : PyData) (r : Option (List Cl)) : Prop := (∃ ru : Ru, d = ru.toD ∧ ru.ok ∧ fits c ru = true ∧ r = some (wants c ru)) ∨ ((∀ ru : Ru, d = ru.toD → ru.ok → fits c ru = false) ∧ r = none)
theorem wantD_no {c : Cl} {ru : Ru} (ok : ru.ok) (h : ∀ ru' : Ru, ru.toD = ru'.toD → ru'.ok → fits c ru' = false) (f : fits c ru = true) : False := by
  have := h ru rfl ok
  rw [f] at this
  cases this
theorem pu_wanted {K : PySem.W.Frag} {ρ : Rho} {ta tb : TE} {c : Cl} {d : PyData} {r : Option (List Cl)} (h : PuE K ta ρ c.toD) (k : PuE K tb ρ d) (gc : GdC c) (wc : wordsC c ≤ 60) (sr : shortR d) (hr : WantD c d r) : PuE K (tCall (spWantedC K) [] E0 (tCons ta (tCons tb tNil))) ρ (optD r) := fun M σ H hid en Q q =>
  h M σ H hid en _ fun v H1 e1 hv => k M σ H1 (hid.same e1) (en.same (vis_same e1)) _ fun u H2 e2 hu => by
    refine ⟨v, u, c, d, rfl, dp_same ((vis_same e2).trans vis_sub) _ _ hv, dp_same vis_sub _ _ hu, gc, wc, sr, fun ru e ok hf p ys H3 e3 np hp hys => ?_, fun no H3 e3 => ?_⟩
    · rcases hr with ⟨ru', e', ok', hf', rfl⟩ | ⟨no, _⟩
      · obtain rfl := ruD_inj (e'.symm.trans e)
        have hid2 := hid.same (e1.trans e2)
        refine q (.ref p) H3 (e1.trans (e2.trans e3)) (.lst (SqL.of ?_) (newcls_vis hid2 e3 hys fun q z => upd_none z))
        unfold vis
        rw [hid2.non np, if_neg Bool.false_ne_true]
        exact hp
      · exact absurd hf (by rw [no ru e ok]; decide)
    · rcases hr with ⟨ru', e', ok', hf', rfl⟩ | ⟨_, rfl⟩
      · exact absurd hf' (by rw [no ru' e' ok']; decide)
      · exact q .non H3 (e1.trans (e2.trans e3)) .non
end Lm
set_option Elab.async false
set_option linter.all false
set_option maxRecDepth 100000
set_option maxHeartbeats 400000
namespace Lm
open PySem PySem.Spec PyProof.Rows L2
/-! ### what is drawn -/
def sideN (ns : List Int) (k b : Int) : List Fm :=
  let row := (List.range (cellN ns k % 4).toNat).map fun (i : Nat) => formN 2 (cellN ns (k + 1 + (0 + (i : Int))) * 48271 % 1000003) b
  row ++ row.take (cellN ns k / 4 % 2 * (if decide (cellN ns k % 4 < 3) = true then 1 else 0)).toNat
def rowN (b : Int) : List Fm := (List.range 15).map fun (i : Nat) => Fm.no (.bi .an (.sg (0 + (i : Int))) (.sg ((b + 11 * (0 + (i : Int))) % 100)))
def claimN (ns : List Int) (b : Int) : Cl :=
  if firstN ns / 600 % 9 = 4 then ((rowN b).take (cellN ns 1 % 16).toNat, (rowN b).drop (cellN ns 1 % 16).toNat) else (sideN ns 1 b, sideN ns 6 b)
theorem mod4 (c : Int) : 0 ≤ c % 4 ∧ c % 4 < 4 := ⟨Int.emod_nonneg c (by decide), Int.emod_lt_of_pos c (by decide)⟩
theorem mod2 (c : Int) : c % 2 = 0 ∨ c % 2 = 1 := by have := Int.emod_nonneg c (by decide : (2 : Int) ≠ 0); have := Int.emod_lt_of_pos c (by decide : (0 : Int) < 2); omega
theorem formN_size (n : Nat) (c b : Int) : (formN n c b).size + 1 ≤ 2 ^ (n + 1) := Nat.le_trans (Fm.size_dep _) (Nat.pow_le_pow_right (by decide) (formN_dep n c b))
theorem wordsS_le {L : List Fm} {m : Nat} (h : ∀ f ∈ L, f.size ≤ m) : wordsS L ≤ L.length * m := by
  induction L with
  | nil => exact Nat.zero_le _
  | cons f L ih =>
    have h1 := h f List.mem_cons_self
    have h2 := ih fun g hg => h g (List.mem_cons_of_mem _ hg)
    rw [wordsS_cons, List.length_cons, Nat.succ_mul]
    omega
theorem side_take (c : Int) : (c / 4 % 2 * (if decide (c % 4 < 3) = true then 1 else 0) : Int).toNat ≤ (if c % 4 < 3 then 1 else 0) := by
  rcases mod2 (c / 4) with h | h <;> rw [h] <;> (by_cases q : c % 4 < 3 <;> simp [q])
theorem sideN_facts (ns : List Int) (k b : Int) : (∀ f ∈ sideN ns k b, f.good ∧ f.dep ≤ 3 ∧ f.size ≤ 7) ∧ (sideN ns k b).length ≤ 3 := by
  have all : ∀ f ∈ (List.range (cellN ns k % 4).toNat).map fun (i : Nat) => formN 2 (cellN ns (k + 1 + (0 + (i : Int))) * 48271 % 1000003) b, f.good ∧ f.dep ≤ 3 ∧ f.size ≤ 7 := fun f hf => by
    obtain ⟨i, _, rfl⟩ := List.mem_map.mp hf
    have := formN_size 2 (cellN ns (k + 1 + (0 + (i : Int))) * 48271 % 1000003) b
    have e : (2 : Nat) ^ (2 + 1) = 8 := by decide
    exact ⟨formN_good _ _ _, formN_dep _ _ _, by omega⟩
  refine ⟨fun f hf => ?_, ?_⟩
  · rcases List.mem_append.mp hf with h | h
    · exact all f h
    · exact all f (List.mem_of_mem_take h)
  · have m := mod4 (cellN ns k)
    have t := side_take (cellN ns k)
    show (List.length (_ ++ _)) ≤ 3
    rw [List.length_append, List.length_take, List.length_map, List.length_range]
    generalize (cellN ns k / 4 % 2 * (if decide (cellN ns k % 4 < 3) = true then 1 else 0) : Int).toNat = T at t ⊢
    by_cases q : cellN ns k % 4 < 3
    · rw [if_pos q] at t
      omega
    · rw [if_neg q] at t
      omega
theorem sub_gd {L : List Fm} (h : ∀ f ∈ L, f.good ∧ f.dep ≤ 3 ∧ f.size ≤ 7) : Gd L := fun f hf => ⟨(h f hf).1, Nat.le_trans (h f hf).2.1 (by decide)⟩
theorem wordsS_const {L : List Fm} {m : Nat} (h : ∀ f ∈ L, f.size = m) : wordsS L = L.length * m := by
  induction L with
  | nil => rw [wordsS_nil, List.length_nil, Nat.zero_mul]
  | cons f L ih =>
    have h1 := h f List.mem_cons_self
    have h2 := ih fun g hg => h g (List.mem_cons_of_mem _ hg)
    rw [wordsS_cons, List.length_cons, Nat.succ_mul]
    omega
theorem rowN_len (b : Int) : (rowN b).length = 15 := by unfold rowN; rw [List.length_map, List.length_range]
theorem rowN_facts (b : Int) : (∀ f ∈ rowN b, f.good ∧ f.dep ≤ 3 ∧ f.size ≤ 7) ∧ wordsS (rowN b) = 60 := by
  refine ⟨fun f hf => ?_, ?_⟩
  rotate_left
  · rw [wordsS_const (m := 4) fun f hf => ?_, rowN_len]
    obtain ⟨i, hi, rfl⟩ := List.mem_map.mp hf
    rfl
  obtain ⟨i, hi, rfl⟩ := List.mem_map.mp hf
  have hi := List.mem_range.mp hi
  have h0 := Int.emod_nonneg (b + 11 * (0 + (i : Int))) (by decide : (100 : Int) ≠ 0)
  have h1 := Int.emod_lt_of_pos (b + 11 * (0 + (i : Int))) (by decide : (0 : Int) < 100)
  exact ⟨⟨⟨by omega, by omega⟩, ⟨h0, by omega⟩⟩, Nat.le_refl 3, by show 4 ≤ 7; decide⟩
theorem words_cut (L : List Fm) (n : Nat) : wordsS (L.take n) + wordsS (L.drop n) = wordsS L := by rw [← wordsS_app, List.take_append_drop]
theorem claimN_facts (ns : List Int) (b : Int) : ((∀ f ∈ (claimN ns b).1, f.good ∧ f.dep ≤ 3 ∧ f.size ≤ 7) ∧ ∀ f ∈ (claimN ns b).2, f.good ∧ f.dep ≤ 3 ∧ f.size ≤ 7) ∧ wordsC (claimN ns b) ≤ 60 ∧ (claimN ns b).1.length ≤ 15 ∧ (claimN ns b).2.length ≤ 15 := by
  unfold claimN
  split
  · obtain ⟨h1, h2⟩ := rowN_facts b
    have l := rowN_len b
    refine ⟨⟨fun f hf => h1 f (List.mem_of_mem_take hf), fun f hf => h1 f (List.mem_of_mem_drop hf)⟩, ?_, ?_, ?_⟩
    · show wordsS _ + wordsS _ ≤ 60
      rw [words_cut, h2]
      exact Nat.le_refl _
    · rw [List.length_take]; omega
    · rw [List.length_drop]; omega
  · obtain ⟨h1, h2⟩ := sideN_facts ns 1 b
    obtain ⟨h3, h4⟩ := sideN_facts ns 6 b
    refine ⟨⟨h1, h3⟩, ?_, Nat.le_trans h2 (by decide), Nat.le_trans h4 (by decide)⟩
    have := wordsS_le fun f hf => (h1 f hf).2.2
    have := wordsS_le fun f hf => (h3 f hf).2.2
    show wordsS (sideN ns 1 b) + wordsS (sideN ns 6 b) ≤ 60
    omega
theorem claimN_gd (ns : List Int) (b : Int) : GdC (claimN ns b) := ⟨sub_gd (claimN_facts ns b).1.1, sub_gd (claimN_facts ns b).1.2⟩
def gSide (ds : List PyData) (d : PyData) : Prop := ∃ (ns : List Int) (k b : Int), ds = [intsD ns, .int k, .int b] ∧ 0 ≤ k ∧ d = lsD (sideN ns k b)
def gLClaim (ds : List PyData) (d : PyData) : Prop := ∃ (ns : List Int) (b : Int), ds = [intsD ns, .int b] ∧ d = (claimN ns b).toD
theorem pu_cellX {K : PySem.W.Frag} {ρ : Rho} {ta tb : TE} {ns : List Int} {k : Int} (h : PuE K ta ρ (intsD ns)) (h2 : PuE K tb ρ (.int k)) (h0 : 0 ≤ k) : PuE K (tCall (spPu K 2 gCell) [] E0 (tCons ta (tCons tb tNil))) ρ (.int (cellN ns k)) :=
  pu_call (pu_cons h (pu_cons h2 pu_nil)) rfl ⟨ns, k, rfl, h0, rfl⟩
theorem pu_formX {K : PySem.W.Frag} {ρ : Rho} {ta tb tc : TE} {n m : Nat} {c b : Int} (h : PuE K ta ρ (.int c)) (h2 : PuE K tb ρ (.int (m : Int))) (h3 : PuE K tc ρ (.int b)) (hm : m < n) : PuE K (tCall (spPu K 3 (gFormula n)) [] E0 (tCons ta (tCons tb (tCons tc tNil)))) ρ (formN m c b).toD :=
  pu_call (pu_cons h (pu_cons h2 (pu_cons h3 pu_nil))) rfl ⟨c, b, m, rfl, hm, rfl⟩
theorem pu_2int {K : PySem.W.Frag} {ρ : Rho} : PuE K (tC (.int 2)) ρ (.int ((2 : Nat) : Int)) := pu_int 2
section
variable {P : Program} {w : World} {K : PySem.W.Frag} {mg : Str → Option Value} {base : Heap} {f : Addr} {fd : FuncData}
theorem scSide : FnScope ["_law_script", "_law_at", "_law_base", "_law_many", "_law_row", "_law_k"] ["_law_script", "_law_at", "_law_base"] (defScope sSide) := ⟨rfl, rfl, rfl, by decide +kernel, rfl, by decide +kernel, by decide +kernel⟩
theorem ok_side (D : Df K mg "_law_side" sSide ["_law_script", "_law_at", "_law_base"] f fd) (B : Blt mg) (b_range : mg "range" = none) (h_law_cell_at : Has P w K mg base 1 "_law_cell_at" ["_law_script", "_law_k"] (spPu K 2 gCell)) (h_law_formula : Has P w K mg base 5 "_law_formula" ["_law_cell", "_law_deep", "_law_base"] (spPu K 3 (gFormula 3))) :
    FnOk P w K mg base CX0 6 f fd ["_law_script", "_law_at", "_law_base"] (spPu K 3 gSide) := by
  refine ok_pu D scSide fun cdv A outer s H E hr => ?_
  refine ⟨_, (pss_cons (ps_set (i := 3) scSide.nd rfl (by first | exact Or.inl rfl | exact Or.inr rfl) (pe_op op_mod (pe_callH h_law_cell_at (hr.mono (by omega)) (by rfl) (pa_cons (pv 0) (pa_cons (pv 1) pa_nil))) pe_int))
    (pss_cons (ps_setLc (i := 4) (own := [("_law_k", 5)]) (g := gName 5) (tt := tYes) rfl scSide.nd rfl rfl (sw_true rfl rfl rfl (by decide +kernel)) (pi_range1 (by rfl) b_range (pa_cons (pv 3) pa_nil)) (blkOk_by (N := ["_law_script", "_law_at", "_law_base", "_law_many", "_law_row", "_law_k"]) (sc := defScope sSide) (by decide +kernel)) (fun _ _ _ _ _ => (pg_name (i := 5) scSide.nd rfl (by first | exact Or.inl rfl | exact Or.inr rfl))) (fun _ _ _ _ _ => pts_nil) (fun _ _ _ _ _ => (pe_callH h_law_formula (hr.mono (by omega)) (by rfl) (pa_cons (pe_op op_mod (pe_op op_mul (pe_callH h_law_cell_at (hr.mono (by omega)) (by rfl) (pa_cons (pv 0) (pa_cons (pe_op op_add (pe_op op_add (pv 1) pe_int) (pv 5)) pa_nil))) pe_int) pe_int) (pa_cons pe_int (pa_cons (pv 2) pa_nil))))))
    (pss_one (ps_ret (pe_op (r := rCatL K) op_catL (pv 4) (pe_slice sl_list (pv 4) po_none (po_some (pe_op op_mul (pe_op op_mod (pe_op op_fdiv (pe_callH h_law_cell_at (hr.mono (by omega)) (by rfl) (pa_cons (pv 0) (pa_cons (pv 1) pa_nil))) pe_int) pe_int) (pe_callTy call_int1 (by rfl) B.int bt_int (pa_cons (pe_cmpR op_lt (pv 3) pe_int (nomark _)) pa_nil)))))))))), ?_⟩
  rintro ds d hl ⟨ns, k, b, rfl, h0, rfl⟩
  left
  have m := mod4 (cellN ns k)
  refine pus_set (pu_mod (pu_cellX (pu_var rfl) (pu_var rfl) h0) (pu_int 4) (by decide)) ?_
  generalize hrow : ((List.range (cellN ns k % 4).toNat).map fun (i : Nat) => formN 2 (cellN ns (k + 1 + (0 + (i : Int))) * 48271 % 1000003) b) = row
  have rl : row.length ≤ 3 := by rw [← hrow, List.length_map, List.length_range]; omega
  have e : sideN ns k b = row ++ row.take (cellN ns k / 4 % 2 * (if decide (cellN ns k % 4 < 3) = true then 1 else 0)).toNat := by rw [← hrow]; rfl
  refine pus_set (d := lsD row) ?_ ?_
  · rw [← hrow]
    show PuE K _ _ (.list (List.map Fm.toD (List.map _ _)))
    rw [List.map_map]
    refine pu_map (xs := List.range (cellN ns k % 4).toNat) (td := fun (i : Nat) => PyData.int (0 + (i : Int))) (pui_rng1 (pu_var rfl) (by omega) (by omega)) (by rw [List.length_range]; omega) _ fun i hi => ?_
    exact pu_formX (pu_mod (pu_mul (pu_cellX (pu_var rfl) (pu_add (pu_add (pu_var rfl) (pu_int 1)) (pu_var rfl)) (by omega)) (pu_int _) (cmul48 _)) (pu_int _) (by decide)) pu_2int (pu_var rfl) (by decide)
  · rw [e]
    generalize ht : (cellN ns k / 4 % 2 * (if decide (cellN ns k % 4 < 3) = true then 1 else 0) : Int) = t
    have t0 : 0 ≤ t := by
      rw [← ht]
      rcases mod2 (cellN ns k / 4) with h | h <;> rw [h] <;> (by_cases q : cellN ns k % 4 < 3 <;> simp [q])
    refine pus_ret ((pu_cat (ds := row.map Fm.toD) (es := (row.map Fm.toD).take t.toNat) (pu_var rfl) (pu_to (n := t.toNat) (pu_var rfl) ?_) (by rw [List.length_take, List.length_map]; omega)).cast (by rw [← List.map_take, ← List.map_append]; rfl))
    refine (pu_mul (pu_mod (pu_fdiv (pu_cellX (pu_var rfl) (pu_var rfl) h0) (pu_int 4) ⟨by decide, by decide⟩) (pu_int 2) (by decide)) (pu_intB (pu_lt (pu_var rfl) (pu_int 3))) (.inl ?_)).cast ?_
    · rcases mod2 (cellN ns k / 4) with h | h <;> rw [h] <;> decide
    · rw [ht, Int.toNat_of_nonneg t0]
theorem scLClaim : FnScope ["_law_script", "_law_base", "_law_row", "_law_k", "_law_cut"] ["_law_script", "_law_base"] (defScope sLClaim) := ⟨rfl, rfl, rfl, by decide +kernel, rfl, by decide +kernel, by decide +kernel⟩
theorem ok_lclaim (D : Df K mg "_law_claim" sLClaim ["_law_script", "_law_base"] f fd) (b_range : mg "range" = none) (h_law_first : Has P w K mg base 2 "_law_first" ["_law_script"] (spPu K 1 gFirst)) (h_law_cell_at : Has P w K mg base 1 "_law_cell_at" ["_law_script", "_law_k"] (spPu K 2 gCell)) (h_law_side : Has P w K mg base 6 "_law_side" ["_law_script", "_law_at", "_law_base"] (spPu K 3 gSide)) :
    FnOk P w K mg base CX0 7 f fd ["_law_script", "_law_base"] (spPu K 2 gLClaim) := by
  refine ok_pu D scLClaim fun cdv A outer s H E hr => ?_
  refine ⟨_, (pss_cons (ps_if (pt_cmpR op_eq (pe_op op_mod (pe_op op_fdiv (pe_callH h_law_first (hr.mono (by omega)) (by rfl) (pa_cons (pv 0) pa_nil)) pe_int) pe_int) pe_int (nomark _)) (pss_cons (ps_setLc (i := 2) (own := [("_law_k", 3)]) (g := gName 3) (tt := tYes) rfl scLClaim.nd rfl rfl (sw_true rfl rfl rfl (by decide +kernel)) (pi_range1 (by rfl) b_range (pa_cons pe_int pa_nil)) (blkOk_by (N := ["_law_script", "_law_base", "_law_row", "_law_k", "_law_cut"]) (sc := defScope sLClaim) (by decide +kernel)) (fun _ _ _ _ _ => (pg_name (i := 3) scLClaim.nd rfl (by first | exact Or.inl rfl | exact Or.inr rfl))) (fun _ _ _ _ _ => pts_nil) (fun _ _ _ _ _ => (pe_tup (pa_cons pe_str (pa_cons (pe_tup (pa_cons pe_str (pa_cons (pe_tup (pa_cons pe_str (pa_cons (pv 3) pa_nil))) (pa_cons (pe_tup (pa_cons pe_str (pa_cons (pe_op op_mod (pe_op op_add (pv 1) (pe_op op_mul pe_int (pv 3))) pe_int) pa_nil))) pa_nil)))) pa_nil)))))
    (pss_cons (ps_set (i := 4) scLClaim.nd rfl (by first | exact Or.inl rfl | exact Or.inr rfl) (pe_op op_mod (pe_callH h_law_cell_at (hr.mono (by omega)) (by rfl) (pa_cons (pv 0) (pa_cons pe_int pa_nil))) pe_int))
    (pss_one (ps_ret (pe_tup (pa_cons (pe_slice sl_list (pv 2) po_none (po_some (pv 4))) (pa_cons (pe_slice sl_list (pv 2) (po_some (pv 4)) po_none) pa_nil))))))) pss_nil)
    (pss_one (ps_ret (pe_tup (pa_cons (pe_callH h_law_side (hr.mono (by omega)) (by rfl) (pa_cons (pv 0) (pa_cons pe_int (pa_cons (pv 1) pa_nil)))) (pa_cons (pe_callH h_law_side (hr.mono (by omega)) (by rfl) (pa_cons (pv 0) (pa_cons pe_int (pa_cons (pv 1) pa_nil)))) pa_nil)))))), ?_⟩
  rintro ds d hl ⟨ns, b, rfl, rfl⟩
  left
  have tst : PuT K (tTest (tOp rEq (tOp (rI (fun _ j => 0 < j) fun i j => .int (i % j)) (tOp (rI CDiv fun i j => .int (i / j)) (tCall (spPu K 1 gFirst) [] E0 (tCons (tVar 0) tNil)) (tC (.int 600))) (tC (.int 9))) (tC (.int 4)))) (startD ["_law_script", "_law_base", "_law_row", "_law_k", "_law_cut"] [intsD ns, .int b]) (decide (firstN ns / 600 % 9 = 4)) :=
    pu_tTest (pu_eqI (pu_mod (pu_fdiv (pu_call (pu_cons (pu_var rfl) pu_nil) rfl ⟨ns, rfl, rfl⟩) (pu_int 600) ⟨by decide, by decide⟩) (pu_int 9) (by decide)) (pu_int 4))
  refine pus_ifr tst (fun c => ⟨_, rfl, ?_⟩) (fun c => ?_)
  · have c := of_decide_eq_true c
    have e : claimN ns b = ((rowN b).take (cellN ns 1 % 16).toNat, (rowN b).drop (cellN ns 1 % 16).toNat) := by unfold claimN; rw [if_pos c]
    rw [e]
    have t0 := Int.emod_nonneg (cellN ns 1) (by decide : (16 : Int) ≠ 0)
    refine pus_set (d := lsD (rowN b)) ?_ ?_
    · show PuE K _ _ (.list (List.map Fm.toD (List.map _ _)))
      rw [List.map_map]
      refine pu_map (xs := List.range 15) (td := fun (i : Nat) => PyData.int (0 + (i : Int))) (pui_rng1 (n := 15) (pu_int 15) (by decide) (by decide)) (by decide) _ fun i hi => ?_
      exact pu_tup (pu_cons (pu_str _) (pu_cons (pu_tup (pu_cons (pu_str _) (pu_cons (pu_tup (pu_cons (pu_str _) (pu_cons (pu_var rfl) pu_nil)) (by simp)) (pu_cons (pu_tup (pu_cons (pu_str _) (pu_cons (pu_mod (pu_add (pu_var rfl) (pu_mul (pu_int 11) (pu_var rfl) (.inl ⟨by decide, by decide⟩))) (pu_int 100) (by decide)) pu_nil)) (by simp)) pu_nil))) (by simp)) pu_nil)) (by simp)
    · refine pus_set (pu_mod (pu_cellX (pu_var rfl) (pu_int 1) (by decide)) (pu_int 16) (by decide)) ?_
      have cutv : ∀ {ρ : Rho}, ρ[4]? = some (some (.int (cellN ns 1 % 16))) → PuE K (tVar 4) ρ (.int ((cellN ns 1 % 16).toNat : Int)) := fun h => (pu_var h).cast (by rw [Int.toNat_of_nonneg t0])
      refine pus_ret (pu_c ?_ ?_)
      · exact PuE.cast (pu_to (ds := (rowN b).map Fm.toD) (pu_var rfl) (cutv rfl)) (by rw [← List.map_take]; rfl)
      · exact PuE.cast (pu_from (ds := (rowN b).map Fm.toD) (pu_var rfl) (cutv rfl)) (by rw [← List.map_drop]; rfl)
  · have c := of_decide_eq_false c
    have e : claimN ns b = (sideN ns 1 b, sideN ns 6 b) := by unfold claimN; rw [if_neg c]
    rw [e]
    exact pus_ret (pu_c (pu_call (pu_cons (pu_var rfl) (pu_cons (pu_int 1) (pu_cons (pu_var rfl) pu_nil))) rfl ⟨ns, 1, b, rfl, by decide, rfl⟩) (pu_call (pu_cons (pu_var rfl) (pu_cons (pu_int 6) (pu_cons (pu_var rfl) pu_nil))) rfl ⟨ns, 6, b, rfl, by decide, rfl⟩))
end
end Lm
set_option Elab.async false
set_option linter.all false
set_option maxRecDepth 100000
set_option maxHeartbeats 400000
namespace Lm
open PySem PySem.Spec PyProof.Rows L2
/-- an item drawn -/
def pickN (L : List Fm) (i : Int) : Fm := (atI L (i % (L.length : Int))).getD (.sg 0)
theorem atI_map {α β : Type} (g : α → β) (xs : List α) (i : Int) : atI (xs.map g) i = (atI xs i).map g := by
  unfold atI
  rw [List.length_map]
  cases ixN xs.length i with
  | none => rfl
  | some j => show (xs.map g)[j]? = (xs[j]?).map g; rw [List.getElem?_map]
theorem pick_at {L : List Fm} (h : L ≠ []) (i : Int) : atI L (i % (L.length : Int)) = some (pickN L i) ∧ pickN L i ∈ L := by
  have hp : 0 < L.length := List.length_pos_iff.mpr h
  have h0 := Int.emod_nonneg i (show (L.length : Int) ≠ 0 by omega)
  have h1 := Int.emod_lt_of_pos i (show (0 : Int) < L.length by omega)
  obtain ⟨j, hj⟩ := Int.eq_ofNat_of_zero_le h0
  have hl : j < L.length := by omega
  unfold pickN
  rw [hj, atI_get' hl]
  exact ⟨rfl, List.getElem_mem hl⟩
theorem pu_pick {K : PySem.W.Frag} {ρ : Rho} {ta tb : TE} {L : List Fm} {i : Int} (h : L ≠ []) (h1 : PuE K ta ρ (lsD L)) (h2 : PuE K tb ρ (.int (i % (L.length : Int)))) : PuE K (tOp (rIxL K) ta tb) ρ (pickN L i).toD :=
  pu_ixL (ds := L.map Fm.toD) h1 h2 (by rw [atI_map, (pick_at h i).1]; rfl)
def oddL (c : Cl) (g : Fm) : List PyData := [.tuple [.str ("left" : Str)], .tuple [.str ("left" : Str), g.toD, g.toD], .list [.str ("left" : Str), g.toD], .tuple [.str ("Left" : Str), g.toD], .str ("left" : Str), .none,
  .tuple [g.toD, .str ("left" : Str)], .tuple [.str ("same" : Str), .none], .tuple [.str ("more" : Str), g.toD], .tuple [.str ("more" : Str), .list [lsD c.1, lsD c.2]], .tuple [.str ("lemma" : Str), .int 5],
  .tuple [.str ("right" : Str), .tuple [.str ("xor" : Str), g.toD, g.toD]], .tuple [.str ("more" : Str), .tuple [.list (List.replicate (61 : Int).toNat (((c.1.map Fm.toD).take 1))).flatten, .list []]]]
def repN (L : List Fm) (k : Int) : List Fm := (List.replicate k.toNat L).flatten
def moreC (c : Cl) (f : Fm) (m : Int) : Cl := (c.1.drop (m / 3 % 2).toNat ++ repN (repN [f] (if decide (m % 3 = 1) = true then 1 else 0)) (m / 9 % 2), c.2.take (m / 6 % 5).toNat ++ repN (repN [f] (if decide (m % 3 = 1) = true then 1 else 0)) (1 - m / 9 % 2))
def wdN (z : Int) : Wd := if z % 6 - 2 = 0 then .same else if z % 6 - 2 = 1 then .left else if z % 6 - 2 = 2 then .right else .lem
def drawnF (c : Cl) (f : Fm) (z : Int) : Fm :=
  if z / 6 % 4 > 0 ∧ (if z / 6 / 4 % 2 = 0 then c.1 else c.2).length > 0 then pickN (if z / 6 / 4 % 2 = 0 then c.1 else c.2) (z / 6 / 8) else f
def ruleN (c : Cl) (z b : Int) : PyData :=
  if z % 6 = 0 then (atI (oddL c (pickN (c.1 ++ c.2 ++ [formN 2 (z / 6 * 16807 % 65539) b]) (z / 6))) (z / 6 % 13)).getD .none
  else if z % 6 = 1 then (Ru.more (moreC c (formN 2 (z / 6 * 16807 % 65539) b) (z / 6))).toD
  else (Ru.fm (wdN z) (drawnF c (formN 2 (z / 6 * 16807 % 65539) b) z)).toD
def gRule (ds : List PyData) (d : PyData) : Prop := ∃ (ns : List Int) (b : Int), ds = [intsD ns, (claimN ns b).toD, .int b] ∧ d = ruleN (claimN ns b) (cellN ns 12) b
theorem repN_map (L : List Fm) (k : Int) : (List.replicate k.toNat (L.map Fm.toD)).flatten = (repN L k).map Fm.toD := by
  unfold repN
  generalize k.toNat = n
  induction n with
  | zero => rfl
  | succ n ih => rw [List.replicate_succ, List.replicate_succ, List.flatten_cons, List.flatten_cons, List.map_append, ih]
theorem repN_len (L : List Fm) (k : Int) : (repN L k).length = L.length * k.toNat := by
  unfold repN
  generalize k.toNat = n
  induction n with
  | zero => rfl
  | succ n ih => rw [List.replicate_succ, List.flatten_cons, List.length_append, ih, Nat.mul_succ]; omega
theorem mem_repN {L : List Fm} {k : Int} {f : Fm} (h : f ∈ repN L k) : f ∈ L := by
  unfold repN at h
  obtain ⟨l, hl, hf⟩ := List.mem_flatten.mp h
  rw [(List.mem_replicate.mp hl).2] at hf
  exact hf
theorem atI_in13 (xs : List PyData) (hx : xs.length = 13) (m : Int) : atI xs (m % 13) = some ((atI xs (m % 13)).getD .none) := by
  have h0 := Int.emod_nonneg m (by decide : (13 : Int) ≠ 0)
  have h1 := Int.emod_lt_of_pos m (by decide : (0 : Int) < 13)
  obtain ⟨j, hj⟩ := Int.eq_ofNat_of_zero_le h0
  have hl : j < xs.length := by omega
  rw [hj, atI_get' hl]
  rfl
theorem wdN_at {z : Int} (h0 : ¬ z % 6 = 0) (h1 : ¬ z % 6 = 1) : atI [PyData.str ("same" : Str), PyData.str ("left" : Str), PyData.str ("right" : Str), PyData.str ("lemma" : Str)] (z % 6 - 2) = some (.str (wdN z).txt) := by
  have a := Int.emod_nonneg z (by decide : (6 : Int) ≠ 0)
  have b := Int.emod_lt_of_pos z (by decide : (0 : Int) < 6)
  unfold wdN
  by_cases c2 : z % 6 - 2 = 0
  · rw [if_pos c2, c2]; rfl
  by_cases c3 : z % 6 - 2 = 1
  · rw [if_neg c2, if_pos c3, c3]; rfl
  by_cases c4 : z % 6 - 2 = 2
  · rw [if_neg c2, if_neg c3, if_pos c4, c4]; rfl
  · rw [if_neg c2, if_neg c3, if_neg c4, show z % 6 - 2 = 3 by omega]; rfl
section
variable {P : Program} {w : World} {K : PySem.W.Frag} {mg : Str → Option Value} {base : Heap} {f : Addr} {fd : FuncData}
theorem scLRule : FnScope ["_law_script", "_law_claim_here", "_law_base", "_law_cell", "_law_more", "_law_f", "_law_side_here", "_law_extra", "_law_left"] ["_law_script", "_law_claim_here", "_law_base"] (defScope sLRule) := ⟨rfl, rfl, rfl, by decide +kernel, rfl, by decide +kernel, by decide +kernel⟩
theorem ok_rule (D : Df K mg "_law_rule" sLRule ["_law_script", "_law_claim_here", "_law_base"] f fd) (B : Blt mg) (h_law_cell_at : Has P w K mg base 1 "_law_cell_at" ["_law_script", "_law_k"] (spPu K 2 gCell)) (h_law_formula : Has P w K mg base 5 "_law_formula" ["_law_cell", "_law_deep", "_law_base"] (spPu K 3 (gFormula 3))) :
    FnOk P w K mg base CX0 6 f fd ["_law_script", "_law_claim_here", "_law_base"] (spPu K 3 gRule) := by
  refine ok_pu D scLRule fun cdv A outer s H E hr => ?_
  refine ⟨_, (pss_cons (ps_set (i := 3) scLRule.nd rfl (by first | exact Or.inl rfl | exact Or.inr rfl) (pe_callH h_law_cell_at (hr.mono (by omega)) (by rfl) (pa_cons (pv 0) (pa_cons pe_int pa_nil))))
    (pss_cons (ps_set (i := 4) scLRule.nd rfl (by first | exact Or.inl rfl | exact Or.inr rfl) (pe_op op_fdiv (pv 3) pe_int))
    (pss_cons (ps_set (i := 5) scLRule.nd rfl (by first | exact Or.inl rfl | exact Or.inr rfl) (pe_callH h_law_formula (hr.mono (by omega)) (by rfl) (pa_cons (pe_op op_mod (pe_op op_mul (pv 4) pe_int) pe_int) (pa_cons pe_int (pa_cons (pv 2) pa_nil)))))
    (pss_cons (ps_if (pt_cmpR op_eq (pe_op op_mod (pv 3) pe_int) pe_int (nomark _)) (pss_cons (ps_set (i := 6) scLRule.nd rfl (by first | exact Or.inl rfl | exact Or.inr rfl) (pe_op (r := rCatL K) op_catL (pe_op (r := rCatL K) op_catL (pe_ix (r := rIxT K) ix_tup (pv 1) pe_int (fun _ _ => rfl)) (pe_ix (r := rIxT K) ix_tup (pv 1) pe_int (fun _ _ => rfl))) (pe_lst (pa_cons (pv 5) pa_nil))))
    (pss_cons (ps_set (i := 5) scLRule.nd rfl (by first | exact Or.inl rfl | exact Or.inr rfl) (pe_ix (r := rIxL K) ix_list (pv 6) (pe_op op_mod (pv 4) (pe_callB (r := rLn K) call_len_seq (by rfl) B.len PySem.boot_len (pa_cons (pv 6) pa_nil))) (fun _ _ => rfl)))
    (pss_one (ps_ret (pe_ix (r := rIxL K) ix_list (pe_lst (pa_cons (pe_tup (pa_cons pe_str pa_nil)) (pa_cons (pe_tup (pa_cons pe_str (pa_cons (pv 5) (pa_cons (pv 5) pa_nil)))) (pa_cons (pe_lst (pa_cons pe_str (pa_cons (pv 5) pa_nil))) (pa_cons (pe_tup (pa_cons pe_str (pa_cons (pv 5) pa_nil))) (pa_cons pe_str (pa_cons pe_non (pa_cons (pe_tup (pa_cons (pv 5) (pa_cons pe_str pa_nil))) (pa_cons (pe_tup (pa_cons pe_str (pa_cons pe_non pa_nil))) (pa_cons (pe_tup (pa_cons pe_str (pa_cons (pv 5) pa_nil))) (pa_cons (pe_tup (pa_cons pe_str (pa_cons (pe_lst (pa_cons (pe_ix (r := rIxT K) ix_tup (pv 1) pe_int (fun _ _ => rfl)) (pa_cons (pe_ix (r := rIxT K) ix_tup (pv 1) pe_int (fun _ _ => rfl)) pa_nil))) pa_nil))) (pa_cons (pe_tup (pa_cons pe_str (pa_cons pe_int pa_nil))) (pa_cons (pe_tup (pa_cons pe_str (pa_cons (pe_tup (pa_cons pe_str (pa_cons (pv 5) (pa_cons (pv 5) pa_nil)))) pa_nil))) (pa_cons (pe_tup (pa_cons pe_str (pa_cons (pe_tup (pa_cons (pe_op (r := rRepL K) op_repL (pe_slice sl_list (pe_ix (r := rIxT K) ix_tup (pv 1) pe_int (fun _ _ => rfl)) po_none (po_some pe_int)) pe_int) (pa_cons (pe_lst pa_nil) pa_nil))) pa_nil))) pa_nil)))))))))))))) (pe_op op_mod (pv 4) pe_int) (fun _ _ => rfl)))))) pss_nil)
    (pss_cons (ps_if (pt_cmpR op_eq (pe_op op_mod (pv 3) pe_int) pe_int (nomark _)) (pss_cons (ps_set (i := 7) scLRule.nd rfl (by first | exact Or.inl rfl | exact Or.inr rfl) (pe_op (r := rRepL K) op_repL (pe_lst (pa_cons (pv 5) pa_nil)) (pe_callTy call_int1 (by rfl) B.int bt_int (pa_cons (pe_cmpR op_eq (pe_op op_mod (pv 4) pe_int) pe_int (nomark _)) pa_nil))))
    (pss_cons (ps_set (i := 8) scLRule.nd rfl (by first | exact Or.inl rfl | exact Or.inr rfl) (pe_op (r := rCatL K) op_catL (pe_slice sl_list (pe_ix (r := rIxT K) ix_tup (pv 1) pe_int (fun _ _ => rfl)) (po_some (pe_op op_mod (pe_op op_fdiv (pv 4) pe_int) pe_int)) po_none) (pe_op (r := rRepL K) op_repL (pv 7) (pe_op op_mod (pe_op op_fdiv (pv 4) pe_int) pe_int))))
    (pss_one (ps_ret (pe_tup (pa_cons pe_str (pa_cons (pe_tup (pa_cons (pv 8) (pa_cons (pe_op (r := rCatL K) op_catL (pe_slice sl_list (pe_ix (r := rIxT K) ix_tup (pv 1) pe_int (fun _ _ => rfl)) po_none (po_some (pe_op op_mod (pe_op op_fdiv (pv 4) pe_int) pe_int))) (pe_op (r := rRepL K) op_repL (pv 7) (pe_op op_sub pe_int (pe_op op_mod (pe_op op_fdiv (pv 4) pe_int) pe_int)))) pa_nil))) pa_nil))))))) pss_nil)
    (pss_cons (ps_set (i := 6) scLRule.nd rfl (by first | exact Or.inl rfl | exact Or.inr rfl) (pe_ix (r := rIxT K) ix_tup (pv 1) (pe_op op_mod (pe_op op_fdiv (pv 4) pe_int) pe_int) (fun _ _ => rfl)))
    (pss_cons (ps_if (PW.pt (pw_and (pt_cmpR op_gt (pe_op op_mod (pv 4) pe_int) pe_int (nomark _)) (pw_and1 (pt_cmpR op_gt (pe_callB (r := rLn K) call_len_seq (by rfl) B.len PySem.boot_len (pa_cons (pv 6) pa_nil)) pe_int (nomark _))))) (pss_one (ps_set (i := 5) scLRule.nd rfl (by first | exact Or.inl rfl | exact Or.inr rfl) (pe_ix (r := rIxL K) ix_list (pv 6) (pe_op op_mod (pe_op op_fdiv (pv 4) pe_int) (pe_callB (r := rLn K) call_len_seq (by rfl) B.len PySem.boot_len (pa_cons (pv 6) pa_nil))) (fun _ _ => rfl)))) pss_nil)
    (pss_one (ps_ret (pe_tup (pa_cons (pe_ix (r := rIxL K) ix_list (pe_lst (pa_cons pe_str (pa_cons pe_str (pa_cons pe_str (pa_cons pe_str pa_nil))))) (pe_op op_sub (pe_op op_mod (pv 3) pe_int) pe_int) (fun _ _ => rfl)) (pa_cons (pv 5) pa_nil)))))))))))), ?_⟩
  rintro ds d hl ⟨ns, b, rfl, rfl⟩
  left
  obtain ⟨⟨g1, g2⟩, wc, l1, l2⟩ := claimN_facts ns b
  generalize claimN ns b = c at g1 g2 wc l1 l2 ⊢
  generalize hz : cellN ns 12 = z
  have c0 : ∀ {ρ : Rho}, ρ[1]? = some (some c.toD) → PuE K (tOp (rIxT K) (tVar 1) (tC (.int 0))) ρ (lsD c.1) := fun h => pu_ixT (ds := [lsD c.1, lsD c.2]) (pu_var h) (pu_int 0) (cix0 c)
  have c1 : ∀ {ρ : Rho}, ρ[1]? = some (some c.toD) → PuE K (tOp (rIxT K) (tVar 1) (tC (.int 1))) ρ (lsD c.2) := fun h => pu_ixT (ds := [lsD c.1, lsD c.2]) (pu_var h) (pu_int 1) (cix1 c)
  refine pus_set (d := .int z) ((pu_cellX (pu_var rfl) (pu_int 12) (by decide)).cast (by rw [hz])) ?_
  refine pus_set (pu_fdiv (pu_var rfl) (pu_int 6) ⟨by decide, by decide⟩) ?_
  refine pus_set (d := (formN 2 (z / 6 * 16807 % 65539) b).toD) (pu_formX (pu_mod (pu_mul (pu_var rfl) (pu_int _) (cmul16 _)) (pu_int _) (by decide)) pu_2int (pu_var rfl) (by decide)) ?_
  unfold ruleN
  generalize hf : formN 2 (z / 6 * 16807 % 65539) b = fm
  generalize hm : z / 6 = m
  have tz : ∀ {ρ : Rho} {k : Int}, ρ[3]? = some (some (.int z)) → PuT K (tTest (tOp rEq (tOp (rI (fun _ j => 0 < j) fun i j => .int (i % j)) (tVar 3) (tC (.int 6))) (tC (.int k)))) ρ (decide (z % 6 = k)) := fun h => pu_tTest (pu_eqI (pu_mod (pu_var h) (pu_int 6) (by decide)) (pu_int _))
  refine pus_ifr (tz rfl) (fun q => ⟨_, rfl, ?_⟩) (fun q => ?_)
  · rw [if_pos (of_decide_eq_true q)]
    have ne : c.1 ++ c.2 ++ [fm] ≠ [] := by simp
    have hlen : (c.1 ++ c.2 ++ [fm]).length ≤ 31 := by rw [List.length_append, List.length_append, List.length_singleton]; omega
    refine pus_set (d := lsD (c.1 ++ c.2 ++ [fm])) ?_ ?_
    · refine PuE.cast (pu_cat (ds := (c.1 ++ c.2).map Fm.toD) (es := [fm].map Fm.toD) (PuE.cast (pu_cat (ds := c.1.map Fm.toD) (es := c.2.map Fm.toD) (c0 rfl) (c1 rfl) (by rw [List.length_map, List.length_map]; omega)) ?_) (pu_l1 (pu_var rfl)) ?_) ?_
      · rw [← List.map_append]
      · rw [List.length_map, List.length_map, List.length_append, List.length_singleton]; omega
      · rw [← List.map_append]; rfl
    refine pus_set (d := (pickN (c.1 ++ c.2 ++ [fm]) m).toD) (pu_pick ne (pu_var rfl) (PuE.cast (pu_mod (pu_var rfl) (pu_len_l (ds := (c.1 ++ c.2 ++ [fm]).map Fm.toD) (pu_var rfl)) (by rw [List.length_map, List.length_append, List.length_singleton]; omega)) (by rw [List.length_map]))) ?_
    generalize hg : pickN (c.1 ++ c.2 ++ [fm]) m = g
    refine pus_ret (pu_ixL (ds := oddL c g) (pu_lst ?_ (by simp [oddL])) (pu_mod (pu_var rfl) (pu_int 13) (by decide)) (atI_in13 _ rfl m))
    have vg : ∀ {ρ : Rho}, ρ[5]? = some (some g.toD) → PuE K (tVar 5) ρ g.toD := fun h => pu_var h
    refine pu_cons (pu_tup (pu_cons (pu_str _) pu_nil) (by simp)) (pu_cons (pu_tup (pu_cons (pu_str _) (pu_cons (vg rfl) (pu_cons (vg rfl) pu_nil))) (by simp)) (pu_cons (pu_lst (pu_cons (pu_str _) (pu_cons (vg rfl) pu_nil)) (by simp)) (pu_cons (pu_tup (pu_cons (pu_str _) (pu_cons (vg rfl) pu_nil)) (by simp)) (pu_cons (pu_str _) (pu_cons pu_non
      (pu_cons (pu_tup (pu_cons (vg rfl) (pu_cons (pu_str _) pu_nil)) (by simp)) (pu_cons (pu_tup (pu_cons (pu_str _) (pu_cons pu_non pu_nil)) (by simp)) (pu_cons (pu_tup (pu_cons (pu_str _) (pu_cons (vg rfl) pu_nil)) (by simp)) (pu_cons (pu_tup (pu_cons (pu_str _) (pu_cons (pu_lst (pu_cons (c0 rfl) (pu_cons (c1 rfl) pu_nil)) (by simp)) pu_nil)) (by simp))
      (pu_cons (pu_tup (pu_cons (pu_str _) (pu_cons (pu_int 5) pu_nil)) (by simp)) (pu_cons (pu_tup (pu_cons (pu_str _) (pu_cons (pu_tup (pu_cons (pu_str _) (pu_cons (vg rfl) (pu_cons (vg rfl) pu_nil))) (by simp)) pu_nil)) (by simp)) (pu_cons (pu_tup (pu_cons (pu_str _) (pu_cons (pu_tup (pu_cons (pu_rep (pu_to (n := 1) (c0 rfl) (pu_int 1)) (pu_int 61) (by decide) (by decide) ?_) (pu_cons (pu_lst (ds := []) pu_nil (by simp)) pu_nil)) (by simp)) pu_nil)) (by simp)) pu_nil))))))))))))
    rw [List.length_take, List.length_map]
    have : min 1 c.1.length ≤ 1 := Nat.min_le_left _ _
    have e61 : (61 : Int).toNat = 61 := rfl
    rw [e61]
    omega
  · have q := of_decide_eq_false q
    rw [if_neg q]
    refine pus_ifr (tz rfl) (fun q1 => ⟨_, rfl, ?_⟩) (fun q1 => ?_)
    · rw [if_pos (of_decide_eq_true q1)]
      refine pus_set (d := lsD (repN [fm] (if decide (m % 3 = 1) = true then 1 else 0))) (PuE.cast (pu_rep (ds := [fm].map Fm.toD) (pu_l1 (pu_var rfl)) (pu_intB (pu_eqI (pu_mod (pu_var rfl) (pu_int 3) (by decide)) (pu_int 1))) (by split <;> decide) (by split <;> decide) (by rw [List.length_map, List.length_singleton]; split <;> decide)) (by rw [repN_map]; rfl)) ?_
      generalize hx : repN [fm] (if decide (m % 3 = 1) = true then 1 else 0) = ex
      have lx : ex.length ≤ 1 := by rw [← hx, repN_len, List.length_singleton]; split <;> decide
      have m9 := mod2 (m / 9)
      have m3 := mod2 (m / 3)
      have m6 : 0 ≤ m / 6 % 5 := Int.emod_nonneg _ (by decide)
      have b1 : (m / 9 % 2).toNat ≤ 1 := by omega
      have b2 : (1 - m / 9 % 2).toNat ≤ 1 := by omega
      have mul1 : ∀ k : Nat, k ≤ 1 → ex.length * k ≤ 100000 := fun k hk => Nat.le_trans (Nat.mul_le_mul lx hk) (by decide)
      refine pus_set (d := lsD (c.1.drop (m / 3 % 2).toNat ++ repN ex (m / 9 % 2))) ?_ ?_
      · refine PuE.cast (pu_cat (ds := (c.1.drop (m / 3 % 2).toNat).map Fm.toD) (es := (repN ex (m / 9 % 2)).map Fm.toD) (PuE.cast (pu_from (n := (m / 3 % 2).toNat) (c0 rfl) (PuE.cast (pu_mod (pu_fdiv (pu_var rfl) (pu_int 3) ⟨by decide, by decide⟩) (pu_int 2) (by decide)) ?_)) ?_) (PuE.cast (pu_rep (pu_var rfl) (pu_mod (pu_fdiv (pu_var rfl) (pu_int 9) ⟨by decide, by decide⟩) (pu_int 2) (by decide)) (by omega) (by omega) ?_) ?_) ?_) ?_
        · rw [Int.toNat_of_nonneg (by omega)]
        · rw [← List.map_drop]
        · rw [List.length_map]; exact mul1 _ b1
        · rw [repN_map]
        · rw [List.length_map, List.length_map, List.length_drop, repN_len]
          have := Nat.mul_le_mul lx b1
          omega
        · rw [← List.map_append]; rfl
      refine pus_ret (pu_tup (pu_cons (pu_str _) (pu_cons (PuE.cast (pu_c (L := c.1.drop (m / 3 % 2).toNat ++ repN ex (m / 9 % 2)) (R := c.2.take (m / 6 % 5).toNat ++ repN ex (1 - m / 9 % 2)) (pu_var rfl) ?_) ?_) pu_nil)) (by simp))
      · refine PuE.cast (pu_cat (ds := (c.2.take (m / 6 % 5).toNat).map Fm.toD) (es := (repN ex (1 - m / 9 % 2)).map Fm.toD) (PuE.cast (pu_to (n := (m / 6 % 5).toNat) (c1 rfl) (PuE.cast (pu_mod (pu_fdiv (pu_var rfl) (pu_int 6) ⟨by decide, by decide⟩) (pu_int 5) (by decide)) ?_)) ?_) (PuE.cast (pu_rep (pu_var rfl) (pu_sub (pu_int 1) (pu_mod (pu_fdiv (pu_var rfl) (pu_int 9) ⟨by decide, by decide⟩) (pu_int 2) (by decide))) (by omega) (by omega) ?_) ?_) ?_) ?_
        · rw [Int.toNat_of_nonneg m6]
        · rw [← List.map_take]
        · rw [List.length_map]; exact mul1 _ b2
        · rw [repN_map]
        · rw [List.length_map, List.length_map, List.length_take, repN_len]
          have := Nat.mul_le_mul lx b2
          omega
        · rw [← List.map_append]; rfl
      · unfold moreC
        rw [hx]
        rfl
    · have q1 := of_decide_eq_false q1
      rw [if_neg q1]
      have m4 := mod2 (m / 4)
      have m4b := mod4 m
      unfold drawnF
      rw [hm]
      generalize hs : (if m / 4 % 2 = 0 then c.1 else c.2) = side
      have ls : side.length ≤ 15 := by rw [← hs]; split <;> assumption
      have six : ∀ {ρ : Rho}, ρ[1]? = some (some c.toD) → ρ[4]? = some (some (.int m)) → PuE K (tOp (rIxT K) (tVar 1) (tOp (rI (fun _ j => 0 < j) fun i j => .int (i % j)) (tOp (rI CDiv fun i j => .int (i / j)) (tVar 4) (tC (.int 4))) (tC (.int 2)))) ρ (lsD side) := fun h h4 => by
        refine pu_ixT (ds := [lsD c.1, lsD c.2]) (pu_var h) (pu_mod (pu_fdiv (pu_var h4) (pu_int 4) ⟨by decide, by decide⟩) (pu_int 2) (by decide)) ?_
        rw [← hs]
        rcases m4 with e | e
        · rw [e, if_pos rfl]; exact cix0 c
        · rw [e, if_neg (by decide)]; exact cix1 c
      refine pus_set (d := lsD side) (six rfl rfl) ?_
      have tst : PuT K (tAnd (tTest (tOp (rI0 fun i j => .bl (decide (j < i))) (tOp (rI (fun _ j => 0 < j) fun i j => .int (i % j)) (tVar 4) (tC (.int 4))) (tC (.int 0)))) (tTest (tOp (rI0 fun i j => .bl (decide (j < i))) (tCB (rLn K) (tCons (tVar 6) tNil)) (tC (.int 0))))) [some (intsD ns), some c.toD, some (.int b), some (.int z), some (.int m), some fm.toD, some (lsD side), none, none] (decide (m % 4 > 0 ∧ side.length > 0)) := by
        refine PuT.cast (pu_tAnd (pu_tTest (pu_gt (pu_mod (pu_var rfl) (pu_int 4) (by decide)) (pu_int 0))) fun _ => pu_tTest (pu_gt (pu_len_l (ds := side.map Fm.toD) (pu_var rfl)) (pu_int 0))) ?_
        rw [List.length_map, ← Bool.decide_and]
        exact decide_eq_decide.mpr ⟨fun ⟨a, b⟩ => ⟨a, by omega⟩, fun ⟨a, b⟩ => ⟨a, by omega⟩⟩
      have fin : ∀ g : Fm, PuS K (tRet (tTup (tCons (tOp (rIxL K) (tLst (tCons (tC (.str ("same" : Str))) (tCons (tC (.str ("left" : Str))) (tCons (tC (.str ("right" : Str))) (tCons (tC (.str ("lemma" : Str))) tNil))))) (tOp (rI0 fun i j => .int (i - j)) (tOp (rI (fun _ j => 0 < j) fun i j => .int (i % j)) (tVar 3) (tC (.int 6))) (tC (.int 2)))) (tCons (tVar 5) tNil)))) [some (intsD ns), some c.toD, some (.int b), some (.int z), some (.int m), some g.toD, some (lsD side), none, none] (.rt (Ru.fm (wdN z) g).toD) := fun g =>
        pus_ret (pu_tup (pu_cons (pu_ixL (pu_lst (pu_cons (pu_str _) (pu_cons (pu_str _) (pu_cons (pu_str _) (pu_cons (pu_str _) pu_nil)))) (by simp)) (pu_sub (pu_mod (pu_var rfl) (pu_int 6) (by decide)) (pu_int 2)) (wdN_at q q1)) (pu_cons (pu_var rfl) pu_nil)) (by simp))
      by_cases hc : m % 4 > 0 ∧ side.length > 0
      · rw [if_pos hc]
        have ne : side ≠ [] := fun z => by rw [z] at hc; exact absurd hc.2 (by decide)
        refine pus_seq (pus_if tst (fun _ => pus_set1 (i := 5) (d := (pickN side (m / 8)).toD) (pu_pick ne (pu_var rfl) (PuE.cast (pu_mod (pu_fdiv (pu_var rfl) (pu_int 8) ⟨by decide, by decide⟩) (pu_len_l (ds := side.map Fm.toD) (pu_var rfl)) (by rw [List.length_map]; omega)) (by rw [List.length_map])))) fun y => absurd hc (of_decide_eq_false y)) (fin _)
      · rw [if_neg hc]
        exact pus_seq (pus_if tst (fun y => absurd (of_decide_eq_true y) hc) fun _ => pus_next) (fin fm)
end
end Lm
set_option Elab.async false
set_option linter.all false
set_option maxRecDepth 100000
set_option maxHeartbeats 400000
namespace Lm
open PySem PySem.Spec PyProof.Rows L2
/-! ### what is drawn as a rule -/
inductive RuD (c : Cl) : PyData → Prop where
  | odd (g : Fm) (hg : g.dep ≤ 3) (i : Nat) (hi : i < 12) : RuD c ((oddL c g).getD i .none)
  | more (m : Cl) (gm : GdC m) (d3 : (∀ f ∈ m.1, f.dep ≤ 3) ∧ ∀ f ∈ m.2, f.dep ≤ 3) (l1 : m.1.length ≤ 100) (l2 : m.2.length ≤ 100) : RuD c (Ru.more m).toD
  | fm (v : Wd) (g : Fm) (gg : g.good) (hg : g.dep ≤ 3) : RuD c (Ru.fm v g).toD
/-- whether it is a rule -/
inductive KnownD (c : Cl) : PyData → Bool → Prop where
  | odd (g : Fm) (i : Nat) (hi : i < 12) : KnownD c ((oddL c g).getD i .none) false
  | more (m : Cl) (d3 : (∀ f ∈ m.1, f.dep ≤ 3) ∧ ∀ f ∈ m.2, f.dep ≤ 3) (l1 : m.1.length ≤ 100) (l2 : m.2.length ≤ 100) : KnownD c (Ru.more m).toD (decide (wordsC m ≤ 60))
  | fm (v : Wd) (g : Fm) : KnownD c (Ru.fm v g).toD true
theorem moreC_facts {c : Cl} {f : Fm} (m : Int) (h1 : ∀ f ∈ c.1, f.good ∧ f.dep ≤ 3 ∧ f.size ≤ 7) (h2 : ∀ f ∈ c.2, f.good ∧ f.dep ≤ 3 ∧ f.size ≤ 7) (l1 : c.1.length ≤ 15) (l2 : c.2.length ≤ 15) (hf : f.good) (hd : f.dep ≤ 3) :
    GdC (moreC c f m) ∧ ((∀ g ∈ (moreC c f m).1, g.dep ≤ 3) ∧ ∀ g ∈ (moreC c f m).2, g.dep ≤ 3) ∧ (moreC c f m).1.length ≤ 100 ∧ (moreC c f m).2.length ≤ 100 := by
  have ex : ∀ {g : Fm} {k : Int}, g ∈ repN (repN [f] (if decide (m % 3 = 1) = true then 1 else 0)) k → g.good ∧ g.dep ≤ 3 := fun h => by
    rw [List.mem_singleton.mp (mem_repN (mem_repN h))]
    exact ⟨hf, hd⟩
  have m9 := mod2 (m / 9)
  have lx : (repN [f] (if decide (m % 3 = 1) = true then 1 else 0)).length ≤ 1 := by rw [repN_len, List.length_singleton]; split <;> decide
  have a1 : ∀ g ∈ (moreC c f m).1, g.good ∧ g.dep ≤ 3 := fun g hg => by
    rcases List.mem_append.mp hg with h | h
    · have := h1 g (List.mem_of_mem_drop h)
      exact ⟨this.1, this.2.1⟩
    · exact ex h
  have a2 : ∀ g ∈ (moreC c f m).2, g.good ∧ g.dep ≤ 3 := fun g hg => by
    rcases List.mem_append.mp hg with h | h
    · have := h2 g (List.mem_of_mem_take h)
      exact ⟨this.1, this.2.1⟩
    · exact ex h
  refine ⟨⟨fun g hg => ⟨(a1 g hg).1, Nat.le_trans (a1 g hg).2 (by decide)⟩, fun g hg => ⟨(a2 g hg).1, Nat.le_trans (a2 g hg).2 (by decide)⟩⟩, ⟨fun g hg => (a1 g hg).2, fun g hg => (a2 g hg).2⟩, ?_, ?_⟩
  · show (List.length (_ ++ _)) ≤ 100
    rw [List.length_append, List.length_drop, repN_len]
    have := Nat.mul_le_mul lx (show (m / 9 % 2).toNat ≤ 1 by omega)
    omega
  · show (List.length (_ ++ _)) ≤ 100
    rw [List.length_append, List.length_take, repN_len]
    have := Nat.mul_le_mul lx (show (1 - m / 9 % 2).toNat ≤ 1 by omega)
    omega
theorem ruleN_drawn (ns : List Int) (z b : Int) : RuD (claimN ns b) (ruleN (claimN ns b) z b) := by
  obtain ⟨⟨g1, g2⟩, wc, l1, l2⟩ := claimN_facts ns b
  generalize claimN ns b = c at g1 g2 wc l1 l2 ⊢
  have fg := formN_good 2 (z / 6 * 16807 % 65539) b
  have fd := formN_dep 2 (z / 6 * 16807 % 65539) b
  unfold ruleN
  generalize formN 2 (z / 6 * 16807 % 65539) b = fm at fg fd ⊢
  split
  · have ne : c.1 ++ c.2 ++ [fm] ≠ [] := by simp
    have hmem := (pick_at ne (z / 6)).2
    generalize pickN (c.1 ++ c.2 ++ [fm]) (z / 6) = g at hmem ⊢
    have hg : g.good ∧ g.dep ≤ 3 := by
      rcases List.mem_append.mp hmem with h | h
      · rcases List.mem_append.mp h with h | h
        · exact ⟨(g1 g h).1, (g1 g h).2.1⟩
        · exact ⟨(g2 g h).1, (g2 g h).2.1⟩
      · rw [List.mem_singleton.mp h]; exact ⟨fg, fd⟩
    have h0 := Int.emod_nonneg (z / 6) (by decide : (13 : Int) ≠ 0)
    have h1 := Int.emod_lt_of_pos (z / 6) (by decide : (0 : Int) < 13)
    obtain ⟨j, hj⟩ := Int.eq_ofNat_of_zero_le h0
    have hl : j < (oddL c g).length := by show j < 13; omega
    rw [hj, atI_get' hl]
    by_cases j12 : j < 12
    · have e : (some (oddL c g)[j]).getD .none = (oddL c g).getD j .none := by
        rw [List.getD_eq_getElem?_getD, List.getElem?_eq_getElem hl]
      rw [e]
      exact .odd g hg.2 j j12
    · have j12 : j = 12 := by omega
      subst j12
      have e : (some (oddL c g)[12]).getD .none = (Ru.more (repN (c.1.take 1) 61, [])).toD := by
        show PyData.tuple [.str ("more" : Str), .tuple [.list (List.replicate (61 : Int).toNat ((c.1.map Fm.toD).take 1)).flatten, .list []]] = _
        rw [← List.map_take, repN_map]
        rfl
      rw [e]
      have sub : ∀ f ∈ repN (c.1.take 1) 61, f.good ∧ f.dep ≤ 3 ∧ f.size ≤ 7 := fun f hf => g1 f (List.mem_of_mem_take (mem_repN hf))
      refine .more _ ⟨sub_gd sub, gd_nil⟩ ⟨fun f hf => (sub f hf).2.1, fun f hf => nomatch hf⟩ ?_ (by simp)
      show (repN (c.1.take 1) 61).length ≤ 100
      rw [repN_len, List.length_take]
      have e61 : (61 : Int).toNat = 61 := rfl
      rw [e61]
      have : min 1 c.1.length ≤ 1 := Nat.min_le_left _ _
      omega
  · split
    · obtain ⟨a, b', c', d'⟩ := moreC_facts (z / 6) g1 g2 l1 l2 fg fd
      exact .more _ a b' c' d'
    · have hg : (drawnF c fm z).good ∧ (drawnF c fm z).dep ≤ 3 := by
        unfold drawnF
        generalize hside : (if z / 6 / 4 % 2 = 0 then c.1 else c.2) = side
        have all : ∀ f ∈ side, f.good ∧ f.dep ≤ 3 := by
          rw [← hside]
          intro f hf
          by_cases q : z / 6 / 4 % 2 = 0
          · rw [if_pos q] at hf
            exact ⟨(g1 f hf).1, (g1 f hf).2.1⟩
          · rw [if_neg q] at hf
            exact ⟨(g2 f hf).1, (g2 f hf).2.1⟩
        by_cases hc : z / 6 % 4 > 0 ∧ side.length > 0
        · rw [if_pos hc]
          have ne : side ≠ [] := fun q => by rw [q] at hc; exact absurd hc.2 (by decide)
          exact all _ (pick_at ne (z / 6 / 8)).2
        · rw [if_neg hc]
          exact ⟨fg, fd⟩
      exact .fm _ _ hg.1 hg.2
def gKnown (ds : List PyData) (d : PyData) : Prop := ∃ (c : Cl) (r : PyData) (b : Bool), ds = [r] ∧ KnownD c r b ∧ d = .bool b
section
variable {K : PySem.W.Frag} {ρ : Rho} {te ta tb : TE}
theorem inV_strs (x : Str) : ∀ ys : List Str, inV (.str x) (ys.map V.str) = decide (x ∈ ys)
  | [] => by simp [inV]
  | y :: ys => by
    have ih := inV_strs x ys
    show ((y == x) || inV (.str x) (ys.map V.str)) = _
    rw [ih]
    by_cases e : y = x
    · subst e; simp
    · have e' : ¬ x = y := fun z => e z.symm
      simp [e, e']
theorem flat_strs : ∀ ys : List Str, (ys.map V.str).all flatV = true
  | [] => rfl
  | y :: ys => by
    rw [List.map_cons, List.all_cons, flat_strs ys]
    rfl
theorem dpAll_strs {H : Hp} : ∀ {ns : List Str} {vs : List V}, DpAll K H vs (ns.map PyData.str) → vs = ns.map V.str
  | [], _, h => by cases h; rfl
  | b :: bs, _, h => by
    have h : DpAll K H _ (PyData.str b :: bs.map PyData.str) := h
    cases h with
    | cons h1 h2 => rw [dp_strI h1, dpAll_strs h2]; rfl
theorem pu_notInS {x : Str} {ys : List Str} (h1 : PuE K ta ρ (.str x)) (h2 : PuE K tb ρ (.tuple (ys.map PyData.str))) : PuE K (tOp (rIn K true) ta tb) ρ (.bool (!decide (x ∈ ys))) := fun M σ H hid en Q q =>
  h1 M σ H hid en _ fun v H1 e1 hv => h2 M σ H1 (hid.same e1) (en.same (vis_same e1)) _ fun u H2 e2 hu => by
    obtain rfl := dp_strI hv
    obtain ⟨a, vs, rfl, hs, ha⟩ := dp_tupI hu
    have e := dpAll_strs ha
    subst e
    refine ⟨a, _, rfl, .inr (sqT_same vis_sub hs), rfl, flat_strs ys, ?_⟩
    rw [if_pos rfl, inV_strs]
    exact q _ H2 (e1.trans e2) (.bl _)
theorem pu_inS {x : Str} {ys : List Str} (h1 : PuE K ta ρ (.str x)) (h2 : PuE K tb ρ (.tuple (ys.map PyData.str))) : PuE K (tOp (rIn K false) ta tb) ρ (.bool (decide (x ∈ ys))) := fun M σ H hid en Q q =>
  h1 M σ H hid en _ fun v H1 e1 hv => h2 M σ H1 (hid.same e1) (en.same (vis_same e1)) _ fun u H2 e2 hu => by
    obtain rfl := dp_strI hv
    obtain ⟨a, vs, rfl, hs, ha⟩ := dp_tupI hu
    have e := dpAll_strs ha
    subst e
    refine ⟨a, _, rfl, .inr (sqT_same vis_sub hs), rfl, flat_strs ys, ?_⟩
    rw [if_neg Bool.false_ne_true, inV_strs]
    exact q _ H2 (e1.trans e2) (.bl _)
end
section
variable {P : Program} {w : World} {K : PySem.W.Frag} {mg : Str → Option Value} {base : Heap} {f : Addr} {fd : FuncData}
theorem scKnown : FnScope ["_law_rule_here", "_law_f"] ["_law_rule_here"] (defScope sKnown) := ⟨rfl, rfl, rfl, by decide +kernel, rfl, by decide +kernel, by decide +kernel⟩
theorem ok_known (D : Df K mg "_law_known" sKnown ["_law_rule_here"] f fd) (B : Blt mg) (b_sum : mg "sum" = none) (h_law_words : Has P w K mg base 14 "_law_words" ["_law_f"] (spPu K 1 (gLWords 13))) :
    FnOk P w K mg base CX0 15 f fd ["_law_rule_here"] (spPu K 1 gKnown) := by
  refine ok_pu D scKnown fun cdv A outer s H E hr => ?_
  refine ⟨_, (pss_cons (ps_if (PW.pt (pw_or (pt_not (pt_val (pe_callB (r := rIsi K) call_isi (by rfl) B.isinstance bt_isinstance (pa_cons (pv 0) (pa_cons (pe_bltn (v := .ty "tuple") (by rfl) B.tuple bt_tuple rfl) pa_nil))))) (pw_or (pt_cmpR op_ne (pe_callB (r := rLn K) call_len_seq (by rfl) B.len PySem.boot_len (pa_cons (pv 0) pa_nil)) pe_int (nomark _)) (pw_or1 (pt_not (pt_val (pe_callB (r := rIsi K) call_isi (by rfl) B.isinstance bt_isinstance (pa_cons (pe_ix (r := rIxT K) ix_tup (pv 0) pe_int (fun _ _ => rfl)) (pa_cons (pe_bltn (v := .ty "str") (by rfl) B.str bt_str rfl) pa_nil))))))))) (pss_one (ps_ret pe_bl)) pss_nil)
    (pss_cons (ps_if (pt_cmpR op_eq (pe_ix (r := rIxT K) ix_tup (pv 0) pe_int (fun _ _ => rfl)) pe_str (nomark _)) (pss_cons (ps_if (PW.pt (pw_or (pt_not (pt_val (pe_callB (r := rIsi K) call_isi (by rfl) B.isinstance bt_isinstance (pa_cons (pe_ix (r := rIxT K) ix_tup (pv 0) pe_int (fun _ _ => rfl)) (pa_cons (pe_bltn (v := .ty "tuple") (by rfl) B.tuple bt_tuple rfl) pa_nil))))) (pw_or1 (pt_not (pt_val (pe_callB (r := rIsi K) call_isi (by rfl) B.isinstance bt_isinstance (pa_cons (pe_ix (r := rIxT K) ix_tup (pe_ix (r := rIxT K) ix_tup (pv 0) pe_int (fun _ _ => rfl)) pe_int (fun _ _ => rfl)) (pa_cons (pe_bltn (v := .ty "list") (by rfl) B.list bt_list rfl) pa_nil)))))))) (pss_one (ps_ret pe_bl)) pss_nil)
    (pss_one (ps_ret (pe_cmpR op_le (pe_callB (r := rSum K) (cr_sum rfl) (by rfl) b_sum bt_sum (pa_cons (pe_lc (own := [("_law_f", 1)]) (g := gName 1) (tt := tYes) rfl scKnown.nd (pi_list (pe_op (r := rCatL K) op_catL (pe_ix (r := rIxT K) ix_tup (pe_ix (r := rIxT K) ix_tup (pv 0) pe_int (fun _ _ => rfl)) pe_int (fun _ _ => rfl)) (pe_ix (r := rIxT K) ix_tup (pe_ix (r := rIxT K) ix_tup (pv 0) pe_int (fun _ _ => rfl)) pe_int (fun _ _ => rfl)))) (blkOk_by (N := ["_law_rule_here", "_law_f"]) (sc := defScope sKnown) (by decide +kernel)) (fun _ _ _ _ _ => (pg_name (i := 1) scKnown.nd rfl (by first | exact Or.inl rfl | exact Or.inr rfl))) (fun _ _ _ _ _ => pts_nil) (fun _ _ _ _ _ => (pe_callH h_law_words (hr.mono (by omega)) (by rfl) (pa_cons (pv 1) pa_nil)))) pa_nil)) pe_int (nomark _))))) pss_nil)
    (pss_cons (ps_if (PW.pt (pw_or (pt_cmpR op_notIn_seq (pe_ix (r := rIxT K) ix_tup (pv 0) pe_int (fun _ _ => rfl)) (pe_tup (pa_cons pe_str (pa_cons pe_str (pa_cons pe_str (pa_cons pe_str pa_nil))))) (by rfl)) (pw_or1 (pt_not (pt_val (pe_callB (r := rIsi K) call_isi (by rfl) B.isinstance bt_isinstance (pa_cons (pe_ix (r := rIxT K) ix_tup (pv 0) pe_int (fun _ _ => rfl)) (pa_cons (pe_bltn (v := .ty "tuple") (by rfl) B.tuple bt_tuple rfl) pa_nil)))))))) (pss_one (ps_ret pe_bl)) pss_nil)
    (pss_one (ps_ret (pe_cmpR op_ne (pe_ix (r := rIxT K) ix_tup (pe_ix (r := rIxT K) ix_tup (pv 0) pe_int (fun _ _ => rfl)) pe_int (fun _ _ => rfl)) pe_str (nomark _))))))), ?_⟩
  rintro ds d hl ⟨c, r, b, rfl, hk, rfl⟩
  left
  have t1 : ∀ {d : PyData} {b : Bool}, isTu d = b → PuT K (tNot (tB (tCB (rIsi K) (tCons (tVar 0) (tCons (tC (.ty "tuple")) tNil))))) (startD ["_law_rule_here", "_law_f"] [d]) (!b) := fun h => (pu_tNot (pu_tB (pu_isTup (pu_var rfl)))).cast (by rw [h])
  have t2 : ∀ {xs : List PyData} {b : Bool}, decide ((xs.length : Int) = 2) = b → PuT K (tTest (tOp rNe (tCB (rLn K) (tCons (tVar 0) tNil)) (tC (.int 2)))) (startD ["_law_rule_here", "_law_f"] [.tuple xs]) (!b) := fun h => (pu_tTest (pu_neI (pu_len_t (pu_var rfl)) (pu_int 2))).cast (by rw [h])
  have i0 : ∀ {x y : PyData}, PuE K (tOp (rIxT K) (tVar 0) (tC (.int 0))) (startD ["_law_rule_here", "_law_f"] [.tuple [x, y]]) x := pu_ixT (pu_var rfl) (pu_int 0) (tix0 _ _ _)
  have i1 : ∀ {x y : PyData}, PuE K (tOp (rIxT K) (tVar 0) (tC (.int 1))) (startD ["_law_rule_here", "_law_f"] [.tuple [x, y]]) y := pu_ixT (pu_var rfl) (pu_int 1) (tix1 _ _ _)
  have t3 : ∀ {x y : PyData} {b : Bool}, isSt x = b → PuT K (tNot (tB (tCB (rIsi K) (tCons (tOp (rIxT K) (tVar 0) (tC (.int 0))) (tCons (tC (.ty "str")) tNil))))) (startD ["_law_rule_here", "_law_f"] [.tuple [x, y]]) (!b) := fun h => (pu_tNot (pu_tB (pu_isStr i0))).cast (by rw [h])
  have ty : ∀ {x y : PyData} {b : Bool}, isTu y = b → PuT K (tNot (tB (tCB (rIsi K) (tCons (tOp (rIxT K) (tVar 0) (tC (.int 1))) (tCons (tC (.ty "tuple")) tNil))))) (startD ["_law_rule_here", "_law_f"] [.tuple [x, y]]) (!b) := fun h => (pu_tNot (pu_tB (pu_isTup i1))).cast (by rw [h])
  -- a pair of a text and something
  have head : ∀ {x : Str} {y : PyData} {u : TS} {o : Out}, PuS K u (startD ["_law_rule_here", "_law_f"] [.tuple [.str x, y]]) o → PuS K (tSeq (tIfS (tOr (tNot (tB (tCB (rIsi K) (tCons (tVar 0) (tCons (tC (.ty "tuple")) tNil))))) (tOr (tTest (tOp rNe (tCB (rLn K) (tCons (tVar 0) tNil)) (tC (.int 2)))) (tNot (tB (tCB (rIsi K) (tCons (tOp (rIxT K) (tVar 0) (tC (.int 0))) (tCons (tC (.ty "str")) tNil))))))) (tRet (tC (.bl false))) tNext) u) (startD ["_law_rule_here", "_law_f"] [.tuple [.str x, y]]) o :=
    fun h => pus_skip (pu_or_r (t1 (b := true) rfl) (pu_or_r (t2 (b := true) rfl) (t3 (b := true) rfl))) h
  have fls : ∀ {ρ : Rho}, PuS K (tRet (tC (.bl false))) ρ (.rt (.bool false)) := pus_ret (pu_bl false)
  have four : ∀ {ρ : Rho}, PuE K (tTup (tCons (tC (.str ("same" : Str))) (tCons (tC (.str ("left" : Str))) (tCons (tC (.str ("right" : Str))) (tCons (tC (.str ("lemma" : Str))) tNil))))) ρ (.tuple ((["same", "left", "right", "lemma"] : List Str).map PyData.str)) := pu_tup (pu_cons (pu_str _) (pu_cons (pu_str _) (pu_cons (pu_str _) (pu_cons (pu_str _) pu_nil)))) (by simp)
  have nm : ∀ {x : Str} {y : PyData}, ¬ x = ("more" : Str) → PuT K (tTest (tOp rEq (tOp (rIxT K) (tVar 0) (tC (.int 0))) (tC (.str ("more" : Str))))) (startD ["_law_rule_here", "_law_f"] [.tuple [.str x, y]]) false := fun h => pu_eqS0 i0 (pu_str _) h
  have inn : ∀ {x : Str} {y : PyData} {b : Bool}, decide (x ∈ (["same", "left", "right", "lemma"] : List Str)) = b → PuT K (tTest (tOp (rIn K true) (tOp (rIxT K) (tVar 0) (tC (.int 0))) (tTup (tCons (tC (.str ("same" : Str))) (tCons (tC (.str ("left" : Str))) (tCons (tC (.str ("right" : Str))) (tCons (tC (.str ("lemma" : Str))) tNil))))))) (startD ["_law_rule_here", "_law_f"] [.tuple [.str x, y]]) (!b) := fun h => (pu_tTest (pu_notInS i0 four)).cast (by rw [h])
  have mm : ∀ {y : PyData}, PuT K (tTest (tOp rEq (tOp (rIxT K) (tVar 0) (tC (.int 0))) (tC (.str ("more" : Str))))) (startD ["_law_rule_here", "_law_f"] [.tuple [.str ("more" : Str), y]]) true := pu_eqS1 i0 (pu_str _) rfl
  cases hk with
  | odd g i hi =>
    have gt : isTu g.toD = true := isTu_fm g
    match i, hi with
    | 0, _ => exact pus_take (pu_or_r (t1 (b := true) rfl) (pu_or_l (t2 (xs := [.str ("left" : Str)]) (b := false) rfl))) fls
    | 1, _ => exact pus_take (pu_or_r (t1 (b := true) rfl) (pu_or_l (t2 (xs := [.str ("left" : Str), g.toD, g.toD]) (b := false) rfl))) fls
    | 2, _ => exact pus_take (pu_or_l (t1 (b := false) rfl)) fls
    | 3, _ => exact head (pus_skip (nm (by decide +kernel)) (pus_take (pu_or_l (inn (b := false) (by decide +kernel))) fls))
    | 4, _ => exact pus_take (pu_or_l (t1 (b := false) rfl)) fls
    | 5, _ => exact pus_take (pu_or_l (t1 (b := false) rfl)) fls
    | 6, _ => exact pus_take (pu_or_r (t1 (b := true) rfl) (pu_or_r (t2 (b := true) rfl) (t3 (b := false) (by cases g <;> rfl)))) fls
    | 7, _ => exact head (pus_skip (nm (by decide +kernel)) (pus_take (pu_or_r (inn (b := true) (by decide +kernel)) (ty (b := false) rfl)) fls))
    | 8, _ =>
      refine head (pus_take mm (pus_take (pu_or_r (ty (b := true) gt) ?_) fls))
      exact (pu_tNot (pu_tB (pu_isLst (pu_ixT (ds := .str g.wd :: tailD g) (i1.cast (toD_tail g)) (pu_int 0) (atI_nat (j := 0) rfl))))).cast rfl
    | 9, _ => exact head (pus_take mm (pus_take (pu_or_l (ty (b := false) rfl)) fls))
    | 10, _ => exact head (pus_skip (nm (by decide +kernel)) (pus_take (pu_or_r (inn (b := true) (by decide +kernel)) (ty (b := false) rfl)) fls))
    | 11, _ =>
      refine head (pus_skip (nm (by decide +kernel)) (pus_skip (pu_or_r (inn (b := true) (by decide +kernel)) (ty (b := true) rfl)) (pus_ret ?_)))
      exact (pu_neS (pu_ixT (ds := [.str ("xor" : Str), g.toD, g.toD]) i1 (pu_int 0) (tix0 _ _ _)) (pu_str _)).cast (by rw [decide_eq_true rfl]; rfl)
  | more m d3 l1 l2 =>
    refine head (pus_take mm (pus_skip (pu_or_r (ty (b := true) rfl) ((pu_tNot (pu_tB (pu_isLst (pu_ixT (ds := [lsD m.1, lsD m.2]) i1 (pu_int 0) (cix0 m))))).cast rfl)) (pus_ret ?_)))
    refine (pu_le (i := (wordsC m : Int)) ?_ (pu_int 60)).cast (by congr 1; exact decide_eq_decide.mpr ⟨fun h => by omega, fun h => by omega⟩)
    have e : ((m.1 ++ m.2).map fun f => (f.size : Int)).sum = (wordsC m : Int) := by
      have all : ∀ L : List Fm, (L.map fun f => (f.size : Int)).sum = (wordsS L : Int) := fun L => by
        induction L with
        | nil => rfl
        | cons f L ih => rw [List.map_cons, List.sum_cons, ih, wordsS_cons]; omega
      rw [all, wordsS_app]
      rfl
    rw [← e]
    refine pu_sum ?_
    rw [List.map_map]
    refine pu_map (xs := m.1 ++ m.2) (td := Fm.toD) (pui_list (PuE.cast (pu_cat (ds := m.1.map Fm.toD) (es := m.2.map Fm.toD) (pu_ixT (ds := [lsD m.1, lsD m.2]) i1 (pu_int 0) (cix0 m)) (pu_ixT (ds := [lsD m.1, lsD m.2]) i1 (pu_int 1) (cix1 m)) (by rw [List.length_map, List.length_map]; omega)) (by rw [← List.map_append]))) (by rw [List.length_append]; omega) _ fun x hx => ?_
    have dx : x.dep ≤ 3 := by
      rcases List.mem_append.mp hx with h | h
      · exact d3.1 x h
      · exact d3.2 x h
    exact pu_call (pu_cons (pu_var rfl) pu_nil) rfl ⟨x, rfl, by omega, rfl⟩
  | fm v g =>
    have hv : decide (v.txt ∈ (["same", "left", "right", "lemma"] : List Str)) = true := by cases v <;> decide +kernel
    refine head (pus_skip (nm (wtxt_more v)) (pus_skip (pu_or_r (inn (b := true) hv) (ty (b := true) (isTu_fm g))) (pus_ret ?_)))
    have nx : ¬ g.wd = ("xor" : Str) := by
      cases g with
      | sg i => show ¬ ("sign" : Str) = ("xor" : Str); decide +kernel
      | no g => show ¬ ("not" : Str) = ("xor" : Str); decide +kernel
      | bi b g h => cases b <;> (first | (show ¬ Bw.an.txt = ("xor" : Str); decide +kernel) | (show ¬ Bw.o.txt = ("xor" : Str); decide +kernel) | (show ¬ Bw.th.txt = ("xor" : Str); decide +kernel))
    exact (pu_neS (pu_ixT (ds := .str g.wd :: tailD g) (i1.cast (toD_tail g)) (pu_int 0) (atI_nat (j := 0) rfl)) (pu_str _)).cast (by rw [decide_eq_false nx]; rfl)
/-! ### what is told, held against what is due -/
def GoodPair (f c : Cl) : Prop := f.1.Nodup ∧ f.2.Nodup ∧ Sub f c ∧ Sub c f ∧ LowC f ∧ LowC c
def gLClaimIs (ds : List PyData) (d : PyData) : Prop := ∃ f c : Cl, ds = [f.toD, c.toD] ∧ GoodPair f c ∧ d = .bool true
theorem scLClaimIs : FnScope ["_law_found", "_law_due"] ["_law_found", "_law_due"] (defScope sLClaimIs) := ⟨rfl, rfl, rfl, by decide +kernel, rfl, by decide +kernel, by decide +kernel⟩
theorem ok_lclaimIs (D : Df K mg "_law_claim_is" sLClaimIs ["_law_found", "_law_due"] f fd) (B : Blt mg) (h_law_with : Has P w K mg base 1 "_law_with" ["_law_row", "_law_more"] (spPu K 2 gWith)) (h_law_within : Has P w K mg base 1 "_law_within" ["_law_one", "_law_other"] (spPu K 2 gStandsIn)) :
    FnOk P w K mg base CX0 2 f fd ["_law_found", "_law_due"] (spPu K 2 gLClaimIs) := by
  refine ok_pu D scLClaimIs fun cdv A outer s H E hr => ?_
  refine ⟨_, (pss_cons (ps_if (PW.pt (pw_or (pt_not (pt_val (pe_callB (r := rIsi K) call_isi (by rfl) B.isinstance bt_isinstance (pa_cons (pv 0) (pa_cons (pe_bltn (v := .ty "tuple") (by rfl) B.tuple bt_tuple rfl) pa_nil))))) (pw_or1 (pt_cmpR op_ne (pe_callB (r := rLn K) call_len_seq (by rfl) B.len PySem.boot_len (pa_cons (pv 0) pa_nil)) pe_int (nomark _))))) (pss_one (ps_ret pe_bl)) pss_nil)
    (pss_cons (ps_if (PW.pt (pw_or (pt_not (pt_val (pe_callB (r := rIsi K) call_isi (by rfl) B.isinstance bt_isinstance (pa_cons (pe_ix (r := rIxT K) ix_tup (pv 0) pe_int (fun _ _ => rfl)) (pa_cons (pe_bltn (v := .ty "list") (by rfl) B.list bt_list rfl) pa_nil))))) (pw_or1 (pt_not (pt_val (pe_callB (r := rIsi K) call_isi (by rfl) B.isinstance bt_isinstance (pa_cons (pe_ix (r := rIxT K) ix_tup (pv 0) pe_int (fun _ _ => rfl)) (pa_cons (pe_bltn (v := .ty "list") (by rfl) B.list bt_list rfl) pa_nil)))))))) (pss_one (ps_ret pe_bl)) pss_nil)
    (pss_cons (ps_if (PW.pt (pw_or (pt_cmpR op_ne (pe_callB (r := rLn K) call_len_seq (by rfl) B.len PySem.boot_len (pa_cons (pe_callH h_law_with (hr.mono (by omega)) (by rfl) (pa_cons (pe_ix (r := rIxT K) ix_tup (pv 0) pe_int (fun _ _ => rfl)) (pa_cons (pe_lst pa_nil) pa_nil))) pa_nil)) (pe_callB (r := rLn K) call_len_seq (by rfl) B.len PySem.boot_len (pa_cons (pe_ix (r := rIxT K) ix_tup (pv 0) pe_int (fun _ _ => rfl)) pa_nil)) (nomark _)) (pw_or1 (pt_cmpR op_ne (pe_callB (r := rLn K) call_len_seq (by rfl) B.len PySem.boot_len (pa_cons (pe_callH h_law_with (hr.mono (by omega)) (by rfl) (pa_cons (pe_ix (r := rIxT K) ix_tup (pv 0) pe_int (fun _ _ => rfl)) (pa_cons (pe_lst pa_nil) pa_nil))) pa_nil)) (pe_callB (r := rLn K) call_len_seq (by rfl) B.len PySem.boot_len (pa_cons (pe_ix (r := rIxT K) ix_tup (pv 0) pe_int (fun _ _ => rfl)) pa_nil)) (nomark _))))) (pss_one (ps_ret pe_bl)) pss_nil)
    (pss_one (ps_ret (pe_and (pe_callH h_law_within (hr.mono (by omega)) (by rfl) (pa_cons (pv 0) (pa_cons (pv 1) pa_nil))) (pe_one (pe_callH h_law_within (hr.mono (by omega)) (by rfl) (pa_cons (pv 1) (pa_cons (pv 0) pa_nil)))))))))), ?_⟩
  rintro ds d hl ⟨g, c, rfl, ⟨n1, n2, s1, s2, lg, lc⟩, rfl⟩
  left
  have i0 : PuE K (tOp (rIxT K) (tVar 0) (tC (.int 0))) (startD ["_law_found", "_law_due"] [g.toD, c.toD]) (lsD g.1) := pu_ixT (ds := [lsD g.1, lsD g.2]) (pu_var rfl) (pu_int 0) (cix0 g)
  have i1 : PuE K (tOp (rIxT K) (tVar 0) (tC (.int 1))) (startD ["_law_found", "_law_due"] [g.toD, c.toD]) (lsD g.2) := pu_ixT (ds := [lsD g.1, lsD g.2]) (pu_var rfl) (pu_int 1) (cix1 g)
  refine pus_skip (pu_or_r ((pu_tNot (pu_tB (pu_isTup (pu_var rfl)))).cast rfl) ((pu_tTest (pu_neI (pu_len_t (ds := [lsD g.1, lsD g.2]) (pu_var rfl)) (pu_int 2))).cast rfl)) ?_
  refine pus_skip (pu_or_r ((pu_tNot (pu_tB (pu_isLst i0))).cast rfl) ((pu_tNot (pu_tB (pu_isLst i1))).cast rfl)) ?_
  have w0 : ∀ {te : TE} {ρ : Rho} {L : List Fm}, PuE K te ρ (lsD L) → Sh L → L.length ≤ 1000 → L.Nodup → PuT K (tTest (tOp rNe (tCB (rLn K) (tCons (tCall (spPu K 2 gWith) [] E0 (tCons te (tCons (tLst tNil) tNil))) tNil)) (tCB (rLn K) (tCons te tNil)))) ρ false := fun {te ρ L} h sh ln nd =>
    (pu_tTest (pu_neI (pu_len_l (ds := (once (L ++ [])).map Fm.toD) (pu_with h pu_l0 sh sh_nil ln (by decide))) (pu_len_l (ds := L.map Fm.toD) h))).cast (by rw [List.append_nil, once_of_nodup nd, decide_eq_true rfl]; rfl)
  refine pus_skip (pu_or_r (w0 i0 lg.1 lg.2.2.1 n1) (w0 i1 lg.2.1 lg.2.2.2 n2)) (pus_ret ?_)
  refine PuE.cast (pu_and (pu_call (pu_cons (pu_var rfl) (pu_cons (pu_var rfl) pu_nil)) rfl ⟨g, c, rfl, lg, lc, rfl⟩) fun _ => pu_call (pu_cons (pu_var rfl) (pu_cons (pu_var rfl) pu_nil)) rfl ⟨c, g, rfl, lc, lg, rfl⟩) ?_
  rw [decide_eq_true s1, decide_eq_true s2]
  rfl
def gGood (ds : List PyData) (d : PyData) : Prop := d = .bool true ∧ (ds = [.none, .none] ∨ ∃ fs cs : List Cl, ds = [optD (some fs), optD (some cs)] ∧ cs.length ≤ 100 ∧ Paired GoodPair fs cs)
theorem paired_at {α β : Type} {R : α → β → Prop} : ∀ {l : List α} {m : List β}, Paired R l m → ∀ {i : Nat} {b : β}, m[i]? = some b → ∃ a, l[i]? = some a ∧ R a b
  | _, _, .nil, _, _, h => by cases h
  | _, _, .cons r t, 0, _, h => by cases h; exact ⟨_, rfl, r⟩
  | _, _, .cons r t, i + 1, _, h => paired_at t (i := i) h
theorem scGood : FnScope ["_law_found", "_law_due", "_law_k"] ["_law_found", "_law_due"] (defScope sGood) := ⟨rfl, rfl, rfl, by decide +kernel, rfl, by decide +kernel, by decide +kernel⟩
theorem ok_good (D : Df K mg "_law_good" sGood ["_law_found", "_law_due"] f fd) (B : Blt mg) (b_range : mg "range" = none) (h_law_claim_is : Has P w K mg base 2 "_law_claim_is" ["_law_found", "_law_due"] (spPu K 2 gLClaimIs)) :
    FnOk P w K mg base CX0 3 f fd ["_law_found", "_law_due"] (spPu K 2 gGood) := by
  refine ok_pu D scGood fun cdv A outer s H E hr => ?_
  refine ⟨_, (pss_cons (ps_if (pt_cmp (pc_isN (pv 1))) (pss_one (ps_ret (pe_cmp (pc_isN (pv 0))))) pss_nil)
    (pss_cons (ps_if (PW.pt (pw_or (pt_not (pt_val (pe_callB (r := rIsi K) call_isi (by rfl) B.isinstance bt_isinstance (pa_cons (pv 0) (pa_cons (pe_bltn (v := .ty "list") (by rfl) B.list bt_list rfl) pa_nil))))) (pw_or1 (pt_cmpR op_ne (pe_callB (r := rLn K) call_len_seq (by rfl) B.len PySem.boot_len (pa_cons (pv 0) pa_nil)) (pe_callB (r := rLn K) call_len_seq (by rfl) B.len PySem.boot_len (pa_cons (pv 1) pa_nil)) (nomark _))))) (pss_one (ps_ret pe_bl)) pss_nil)
    (pss_one (ps_ret (pe_callB (r := rAll K) (cr_all rfl) (by rfl) B.all bt_all (pa_cons (pe_lc (own := [("_law_k", 2)]) (g := gName 2) (tt := tYes) rfl scGood.nd (pi_range1 (by rfl) b_range (pa_cons (pe_callB (r := rLn K) call_len_seq (by rfl) B.len PySem.boot_len (pa_cons (pv 1) pa_nil)) pa_nil)) (blkOk_by (N := ["_law_found", "_law_due", "_law_k"]) (sc := defScope sGood) (by decide +kernel)) (fun _ _ _ _ _ => (pg_name (i := 2) scGood.nd rfl (by first | exact Or.inl rfl | exact Or.inr rfl))) (fun _ _ _ _ _ => pts_nil) (fun _ _ _ _ _ => (pe_callH h_law_claim_is (hr.mono (by omega)) (by rfl) (pa_cons (pe_ix (r := rIxL K) ix_list (pv 0) (pv 2) (fun _ _ => rfl)) (pa_cons (pe_ix (r := rIxL K) ix_list (pv 1) (pv 2) (fun _ _ => rfl)) pa_nil))))) pa_nil)))))), ?_⟩
  rintro ds d hl ⟨rfl, h⟩
  left
  rcases h with rfl | ⟨fs, cs, rfl, lc, hp⟩
  · exact pus_take ((pu_tB (pu_isN (pu_var rfl))).cast rfl) (pus_ret ((pu_isN (pu_var rfl)).cast rfl))
  have hlen : fs.length = cs.length := Paired.length hp
  refine pus_skip ((pu_tB (pu_isN (pu_var rfl))).cast rfl) ?_
  refine pus_skip (pu_or_r ((pu_tNot (pu_tB (pu_isLst (pu_var rfl)))).cast rfl) ((pu_tTest (pu_neI (pu_len_l (ds := fs.map Cl.toD) (pu_var rfl)) (pu_len_l (ds := cs.map Cl.toD) (pu_var rfl)))).cast (by rw [List.length_map, List.length_map, hlen, decide_eq_true rfl]; rfl))) (pus_ret ?_)
  have e : (List.replicate cs.length true).all id = true := by simp
  rw [show PyData.bool true = .bool ((List.replicate cs.length true).all id) by rw [e]]
  refine pu_all ?_
  have e2 : (List.replicate cs.length true).map PyData.bool = (List.range cs.length).map fun _ => PyData.bool true := by
    rw [List.map_replicate]
    apply List.ext_getElem
    · simp
    · intro i h1 h2; simp
  rw [e2]
  refine pu_map (xs := List.range cs.length) (td := fun (i : Nat) => PyData.int (0 + (i : Int))) (PuI.cast (pui_rng1 (n := (cs.length : Int)) (PuE.cast (pu_len_l (ds := cs.map Cl.toD) (pu_var rfl)) (by rw [List.length_map])) (by omega) (by omega)) (by rw [Int.toNat_natCast])) (by rw [List.length_range]; omega) _ fun i hi => ?_
  have hi := List.mem_range.mp hi
  have hc : cs[i]? = some cs[i] := List.getElem?_eq_getElem hi
  obtain ⟨g, hg, gp⟩ := paired_at hp hc
  have z : (0 : Int) + (i : Int) = (i : Int) := Int.zero_add _
  refine pu_call (pu_cons (pu_ixL (ds := fs.map Cl.toD) (pu_var rfl) (PuE.cast (pu_var rfl) (by rw [z])) (atI_nat (v := g.toD) (by rw [List.getElem?_map, hg]; rfl))) (pu_cons (pu_ixL (ds := cs.map Cl.toD) (pu_var rfl) (PuE.cast (pu_var rfl) (by rw [z])) (atI_nat (v := cs[i].toD) (by rw [List.getElem?_map, hc]; rfl))) pu_nil)) rfl ⟨g, cs[i], rfl, gp, rfl⟩
end
end Lm
set_option Elab.async false
set_option linter.all false
set_option maxRecDepth 100000
set_option maxHeartbeats 400000
namespace Lm
open PySem PySem.Spec PyProof.Rows L2
/-! ### mathematics of the law -/
theorem without_once (L : List Fm) (f : Fm) : without (once L) f = once (without L f) := (once_filter _ L).symm
theorem once_app' (A B : List Fm) : once (once A ++ B) = once (A ++ B) := once_app A B
theorem lwants_eq {c : Cl} {v : Wd} {g : Fm} : lwants c (.fm v g) = if fits c (.fm v g) = true then some (wants c (.fm v g)) else none := by
  cases v with
  | same =>
    show (if g ∈ once c.1 ∧ g ∈ once c.2 then some [] else none) = if (decide (g ∈ c.1) && decide (g ∈ c.2)) = true then some [] else none
    by_cases h : g ∈ c.1 ∧ g ∈ c.2
    · rw [if_pos ⟨mem_once.mpr h.1, mem_once.mpr h.2⟩, decide_eq_true h.1, decide_eq_true h.2]
      rfl
    · rw [if_neg fun z => h ⟨mem_once.mp z.1, mem_once.mp z.2⟩, if_neg]
      rw [Bool.and_eq_true, decide_eq_true_eq, decide_eq_true_eq]
      exact h
  | lem =>
    show some [(once c.1, once (once c.2 ++ [g])), (once (once c.1 ++ [g]), once c.2)] = some [(once (c.1 ++ []), once (c.2 ++ [g])), (once (c.1 ++ [g]), once (c.2 ++ []))]
    rw [once_app, once_app, List.append_nil, List.append_nil]
  | left =>
    show (if g ∈ once c.1 ∧ g.isSg = false then some ((putL g).map fun p => (once (without (once c.1) g ++ p.1), once (once c.2 ++ p.2))) else none) = if (decide (g ∈ c.1) && !g.isSg) = true then some ((putL g).map fun p => (once (without c.1 g ++ p.1), once (c.2 ++ p.2))) else none
    have e : ((putL g).map fun p => (once (without (once c.1) g ++ p.1), once (once c.2 ++ p.2))) = (putL g).map fun p => (once (without c.1 g ++ p.1), once (c.2 ++ p.2)) := List.map_congr_left fun p _ => by rw [without_once, once_app, once_app]
    rw [e]
    by_cases h : g ∈ c.1 ∧ g.isSg = false
    · rw [if_pos ⟨mem_once.mpr h.1, h.2⟩, decide_eq_true h.1, h.2]
      rfl
    · rw [if_neg fun z => h ⟨mem_once.mp z.1, z.2⟩, if_neg]
      rw [Bool.and_eq_true, decide_eq_true_eq, Bool.not_eq_true']
      exact h
  | right =>
    show (if g ∈ once c.2 ∧ g.isSg = false then some ((putR g).map fun p => (once (once c.1 ++ p.1), once (without (once c.2) g ++ p.2))) else none) = if (decide (g ∈ c.2) && !g.isSg) = true then some ((putR g).map fun p => (once (c.1 ++ p.1), once (without c.2 g ++ p.2))) else none
    have e : ((putR g).map fun p => (once (once c.1 ++ p.1), once (without (once c.2) g ++ p.2))) = (putR g).map fun p => (once (c.1 ++ p.1), once (without c.2 g ++ p.2)) := List.map_congr_left fun p _ => by rw [without_once, once_app, once_app]
    rw [e]
    by_cases h : g ∈ c.2 ∧ g.isSg = false
    · rw [if_pos ⟨mem_once.mpr h.1, h.2⟩, decide_eq_true h.1, h.2]
      rfl
    · rw [if_neg fun z => h ⟨mem_once.mp z.1, z.2⟩, if_neg]
      rw [Bool.and_eq_true, decide_eq_true_eq, Bool.not_eq_true']
      exact h
theorem lwants_more {c m : Cl} : lwants c (.more m) = if fits c (.more m) = true then some [m] else none := by
  show (if Sub m c then some [m] else none) = if decide (Sub m c) = true then some [m] else none
  by_cases h : Sub m c
  · rw [if_pos h, decide_eq_true h, if_pos rfl]
  · rw [if_neg h, decide_eq_false h, if_neg (by decide)]
theorem sub_refl (a : Cl) : Sub a a := ⟨fun _ h => h, fun _ h => h⟩
theorem good_once {A B : List Fm} (sA : Sh A) (sB : Sh B) (lA : A.length ≤ 1000) (lB : B.length ≤ 1000) : GoodPair (once A, once B) (once A, once B) :=
  ⟨nodup_once A, nodup_once B, sub_refl _, sub_refl _, ⟨sh_once sA, sh_once sB, Nat.le_trans (once_len _) lA, Nat.le_trans (once_len _) lB⟩, ⟨sh_once sA, sh_once sB, Nat.le_trans (once_len _) lA, Nat.le_trans (once_len _) lB⟩⟩
theorem paired_self {α β : Type} {R : α → α → Prop} (f : β → α) : ∀ {l : List β}, (∀ x ∈ l, R (f x) (f x)) → Paired R (l.map f) (l.map f)
  | [], _ => .nil
  | x :: l, h => .cons (h x List.mem_cons_self) (paired_self f fun y hy => h y (List.mem_cons_of_mem _ hy))
/-- what is due, held against what the rule wants -/
theorem due_ok {c : Cl} {d : PyData} (hc : LowC c) (l1 : c.1.length ≤ 900) (l2 : c.2.length ≤ 900) (h : RuD c d) : ∃ (b : Bool) (r due : Option (List Cl)), KnownD c d b ∧ WantD c d r ∧ shortR d ∧ (b = true → ∃ ru, d = ru.toD ∧ ruLow ru ∧ due = lwants c ru) ∧ (b = false → due = none) ∧
    ((r = none ∧ due = none) ∨ ∃ fs cs, r = some fs ∧ due = some cs ∧ cs.length ≤ 100 ∧ Paired GoodPair fs cs) := by
  cases h with
  | odd g hg i hi =>
    have no : ∀ ru : Ru, (oddL c g).getD i .none = ru.toD → ¬ ru.ok := fun ru e ok => by
      match i, hi with
      | 0, _ => cases ru <;> (injection e with e; injection e with _ e; cases e)
      | 1, _ => cases ru <;> (injection e with e; injection e with _ e; injection e with _ e; cases e)
      | 2, _ => cases ru <;> cases e
      | 3, _ =>
        cases ru with
        | fm v f => injection e with e; injection e with e1 e2; injection e1 with e1; revert e1; cases v <;> decide +kernel
        | more m => injection e with e; injection e with e1 e2; injection e1 with e1; revert e1; decide +kernel
      | 4, _ => cases ru <;> cases e
      | 5, _ => cases ru <;> cases e
      | 6, _ => exact ru_str (by cases g <;> rfl) ru e
      | 7, _ => cases ru with
        | fm v f => injection e with e; injection e with e1 e2; injection e2 with e2; cases f <;> cases e2
        | more m => injection e with e; injection e with e1 e2; injection e2 with e2; cases e2
      | 8, _ => cases ru with
        | fm v f => injection e with e; injection e with e1 e2; injection e1 with e1; exact wtxt_more v e1.symm
        | more m =>
          injection e with e; injection e with e1 e2; injection e2 with e2 _
          cases g with
          | sg j => injection e2 with e2; injection e2 with e2 _; cases e2
          | no g => injection e2 with e2; injection e2 with e2 _; cases e2
          | bi b g k => injection e2 with e2; injection e2 with e2 _; cases e2
      | 9, _ => cases ru with
        | fm v f => injection e with e; injection e with e1 e2; injection e1 with e1; exact wtxt_more v e1.symm
        | more m => injection e with e; injection e with e1 e2; injection e2 with e2 _; cases e2
      | 10, _ => cases ru with
        | fm v f => injection e with e; injection e with e1 e2; injection e2 with e2 _; cases f <;> cases e2
        | more m => injection e with e; injection e with e1 e2; injection e2 with e2 _; cases e2
      | 11, _ => cases ru with
        | fm v f =>
          injection e with e; injection e with e1 e2; injection e2 with e2 _
          cases f with
          | sg j => injection e2 with e2; injection e2 with e2 e3; injection e3 with e3 e4; cases e4
          | no f => injection e2 with e2; injection e2 with e2 e3; injection e3 with e3 e4; cases e4
          | bi b f k => injection e2 with e2; injection e2 with e2 e3; injection e2 with e2; revert e2; cases b <;> decide +kernel
        | more m => injection e with e; injection e with e1 e2; injection e2 with e2 _; injection e2 with e2; injection e2 with e2 _; cases e2
    have sr : shortR ((oddL c g).getD i .none) := fun w t e => by
      match i, hi with
      | 0, _ => injection e with e; injection e with _ e; cases e
      | 1, _ => injection e with e; injection e with _ e; injection e with _ e; cases e
      | 2, _ => cases e
      | 3, _ => injection e with e; injection e with e1 e2; injection e2 with e2 _; rw [← e2]; cases g <;> exact trivial
      | 4, _ => cases e
      | 5, _ => cases e
      | 6, _ => injection e with e; injection e with e1 e2; injection e2 with e2 _; rw [← e2]; exact trivial
      | 7, _ => injection e with e; injection e with e1 e2; injection e2 with e2 _; rw [← e2]; exact trivial
      | 8, _ => injection e with e; injection e with e1 e2; injection e2 with e2 _; rw [← e2]; cases g <;> exact trivial
      | 9, _ => injection e with e; injection e with e1 e2; injection e2 with e2 _; rw [← e2]; exact trivial
      | 10, _ => injection e with e; injection e with e1 e2; injection e2 with e2 _; rw [← e2]; exact trivial
      | 11, _ => injection e with e; injection e with e1 e2; injection e2 with e2 _; rw [← e2]; exact trivial
    exact ⟨false, none, none, .odd g i hi, .inr ⟨fun ru e ok => absurd ok (no ru e), rfl⟩, sr, (fun z => nomatch z), fun _ => rfl, .inl ⟨rfl, rfl⟩⟩
  | more m gm d3 m1 m2 =>
    have lm : LowC m := ⟨gm.1.sh, gm.2.sh, by omega, by omega⟩
    have sr : shortR (Ru.more m).toD := fun w t e => by
      injection e with e; injection e with e1 e2; injection e2 with e2 _
      rw [← e2]
      show (m.1.map Fm.toD).length + (m.2.map Fm.toD).length ≤ 1000
      rw [List.length_map, List.length_map]
      omega
    by_cases w : wordsC m ≤ 60
    · have ok : (Ru.more m).ok := ⟨gm, w⟩
      have kd : KnownD c (Ru.more m).toD true := by
        have := KnownD.more (c := c) m d3 m1 m2
        rw [decide_eq_true w] at this
        exact this
      cases hf : fits c (.more m) with
      | true =>
        refine ⟨true, some (wants c (.more m)), some [m], kd, .inl ⟨_, rfl, ok, hf, rfl⟩, sr, fun _ => ⟨_, rfl, lm, by rw [lwants_more, hf, if_pos rfl]⟩, (fun z => nomatch z), .inr ⟨_, _, rfl, rfl, by simp, .cons ?_ .nil⟩⟩
        exact ⟨nodup_once _, nodup_once _, ⟨fun f hf => mem_once.mp hf, fun f hf => mem_once.mp hf⟩, ⟨fun f hf => mem_once.mpr hf, fun f hf => mem_once.mpr hf⟩, lcl lm, lm⟩
      | false =>
        exact ⟨true, none, none, kd, .inr ⟨fun ru e _ => by rw [← ruD_inj e]; exact hf, rfl⟩, sr, fun _ => ⟨_, rfl, lm, by rw [lwants_more, hf, if_neg (by decide)]⟩, (fun z => nomatch z), .inl ⟨rfl, rfl⟩⟩
    · have kd : KnownD c (Ru.more m).toD false := by
        have := KnownD.more (c := c) m d3 m1 m2
        rw [decide_eq_false w] at this
        exact this
      exact ⟨false, none, none, kd, .inr ⟨fun ru e ok => by rw [← ruD_inj e] at ok; exact absurd ok.2 w, rfl⟩, sr, (fun z => nomatch z), fun _ => rfl, .inl ⟨rfl, rfl⟩⟩
  | fm v g gg hg =>
    have ok : (Ru.fm v g).ok := ⟨gg, by omega⟩
    have lr : ruLow (Ru.fm v g) := by show g.dep ≤ 60; omega
    have sr : shortR (Ru.fm v g).toD := fun w t e => by
      injection e with e; injection e with e1 e2; injection e2 with e2 _
      rw [← e2]
      cases g <;> exact trivial
    cases hf : fits c (.fm v g) with
    | true =>
      refine ⟨true, some (wants c (.fm v g)), some (wants c (.fm v g)), .fm v g, .inl ⟨_, rfl, ok, hf, rfl⟩, sr, fun _ => ⟨_, rfl, lr, by rw [lwants_eq, hf, if_pos rfl]⟩, (fun z => nomatch z), .inr ⟨_, _, rfl, rfl, ?_, ?_⟩⟩
      · show ((putIn v g).map _).length ≤ 100
        rw [List.length_map]
        have := putIn_len v g
        omega
      · refine paired_self _ fun p hp => ?_
        obtain ⟨q1, q2, q3, q4⟩ := putIn_low (show g.dep ≤ 60 by omega) hp
        exact good_once (sh_app (sh_out hc.1) q1) (sh_app (sh_out hc.2.1) q2) (by rw [List.length_append]; have := out_len v .left c.1 g; omega) (by rw [List.length_append]; have := out_len v .right c.2 g; omega)
    | false =>
      exact ⟨true, none, none, .fm v g, .inr ⟨fun ru e _ => by rw [← ruD_inj e]; exact hf, rfl⟩, sr, fun _ => ⟨_, rfl, lr, by rw [lwants_eq, hf, if_neg (by decide)]⟩, (fun z => nomatch z), .inl ⟨rfl, rfl⟩⟩
theorem shp_ls {L : List Fm} {n : Nat} (h : ∀ f ∈ L, f.dep ≤ n) : Shp (n + 1) (lsD L) := shp_lst fun d hd => by
  obtain ⟨f, hf, rfl⟩ := List.mem_map.mp hd
  exact shp_fm f (h f hf)
theorem shp_cl {c : Cl} {n : Nat} (h1 : ∀ f ∈ c.1, f.dep ≤ n) (h2 : ∀ f ∈ c.2, f.dep ≤ n) : Shp (n + 2) c.toD := shp_tup (n := n + 1) fun d hd => by
  rcases List.mem_cons.mp hd with rfl | hd
  · exact shp_ls h1
  · rw [List.mem_singleton.mp hd]
    exact shp_ls h2
theorem shp_two {n : Nat} {a b : PyData} (h1 : Shp n a) (h2 : Shp n b) : ∀ d ∈ [a, b], Shp n d := fun d hd => by
  rcases List.mem_cons.mp hd with rfl | hd
  · exact h1
  · rw [List.mem_singleton.mp hd]; exact h2
theorem shp_three {n : Nat} {a b c : PyData} (h1 : Shp n a) (h2 : Shp n b) (h3 : Shp n c) : ∀ d ∈ [a, b, c], Shp n d := fun d hd => by
  rcases List.mem_cons.mp hd with rfl | hd
  · exact h1
  · exact shp_two h2 h3 d hd
theorem shp_s (x : Str) (h : PyData.canLay0 (.str x) = true) (n : Nat) : Shp n (.str x) := (shp_str h).mono (Nat.zero_le _)
theorem wd_lay (v : Wd) : PyData.canLay0 (.str v.txt) = true := by cases v <;> decide +kernel
theorem ruD_shp {c : Cl} {d : PyData} (hc : (∀ f ∈ c.1, f.dep ≤ 3) ∧ ∀ f ∈ c.2, f.dep ≤ 3) (h : RuD c d) : Shp 7 d := by
  cases h with
  | odd g hg i hi =>
    have fg : ∀ n, 3 ≤ n → Shp n g.toD := fun n hn => shp_fm g (by omega)
    have sl := shp_s ("left" : Str) (by decide +kernel)
    match i, hi with
    | 0, _ => exact (shp_tup (n := 6) fun d hd => by rw [List.mem_singleton.mp hd]; exact sl 6)
    | 1, _ => exact (shp_tup (n := 6) (shp_three (sl 6) (fg 6 (by decide)) (fg 6 (by decide))))
    | 2, _ => exact (shp_lst (n := 6) (shp_two (sl 6) (fg 6 (by decide))))
    | 3, _ => exact (shp_tup (n := 6) (shp_two (shp_s ("Left" : Str) (by decide +kernel) 6) (fg 6 (by decide))))
    | 4, _ => exact sl 7
    | 5, _ => exact shp_non.mono (Nat.zero_le _)
    | 6, _ => exact (shp_tup (n := 6) (shp_two (fg 6 (by decide)) (sl 6)))
    | 7, _ => exact (shp_tup (n := 6) (shp_two (shp_s ("same" : Str) (by decide +kernel) 6) (shp_non.mono (Nat.zero_le _))))
    | 8, _ => exact (shp_tup (n := 6) (shp_two (shp_s ("more" : Str) (by decide +kernel) 6) (fg 6 (by decide))))
    | 9, _ => exact (shp_tup (n := 6) (shp_two (shp_s ("more" : Str) (by decide +kernel) 6) ((shp_lst (n := 4) (shp_two (shp_ls hc.1) (shp_ls hc.2))).mono (by decide))))
    | 10, _ => exact (shp_tup (n := 6) (shp_two (shp_s ("lemma" : Str) (by decide +kernel) 6) ((shp_int 5).mono (Nat.zero_le _))))
    | 11, _ => exact (shp_tup (n := 6) (shp_two (shp_s ("right" : Str) (by decide +kernel) 6) (shp_tup (n := 5) (shp_three (shp_s ("xor" : Str) (by decide +kernel) 5) (fg 5 (by decide)) (fg 5 (by decide))))))
  | more m gm d3 m1 m2 => exact (shp_tup (n := 6) (shp_two (shp_s ("more" : Str) (by decide +kernel) 6) ((shp_cl d3.1 d3.2).mono (by decide))))
  | fm v g gg hg => exact (shp_tup (n := 6) (shp_two (shp_s v.txt (wd_lay v) 6) (shp_fm g (by omega))))
end Lm
set_option Elab.async false
set_option linter.all false
set_option maxRecDepth 100000
set_option maxHeartbeats 400000
namespace Lm
open PySem PySem.Spec PyProof.Rows L2
/-- a list of no more than n -/
def Ll (n : Nat) (H : Hp) (r : Addr) : Prop := ∃ xs, H r = some (.lst xs) ∧ xs.length ≤ n
theorem Ll.upd {n m : Nat} {H : Hp} {r q : Addr} {zs : List V} (h : Ll n H r) (l : n ≤ m) (z : zs.length ≤ m) : Ll m (upd H q (.lst zs)) r := by
  by_cases e : r = q
  · exact ⟨zs, by rw [e, upd_same], z⟩
  · obtain ⟨xs, h1, h2⟩ := h
    exact ⟨xs, by rw [upd_ne e]; exact h1, Nat.le_trans h2 l⟩
theorem Ll.same {n : Nat} {H H' : Hp} {r : Addr} (h : Ll n H r) (e : Same H H') : Ll n H' r := h.imp fun xs p => ⟨e _ _ p.1, p.2⟩
theorem wants_len {c : Cl} {ru : Ru} (l1 : c.1.length ≤ 900) (l2 : c.2.length ≤ 900) (ok : ru.ok) : ∀ cl ∈ wants c ru, cl.1.length ≤ 2000 ∧ cl.2.length ≤ 2000 := fun cl h => by
  cases ru with
  | more m =>
    have := ok.2
    have := words_len m.1
    have := words_len m.2
    unfold wordsC at *
    rw [List.mem_singleton.mp h]
    have := once_len m.1
    have := once_len m.2
    constructor <;> (dsimp only; omega)
  | fm v g =>
    obtain ⟨p, hp, rfl⟩ := List.mem_map.mp (show cl ∈ (putIn v g).map _ from h)
    have d12 : g.dep ≤ 12 := ok.2
    obtain ⟨_, _, q3, q4⟩ := putIn_low (show g.dep ≤ 60 by omega) hp
    have a := once_len (outOf v .left c.1 g ++ p.1)
    have b := once_len (outOf v .right c.2 g ++ p.2)
    rw [List.length_append] at a b
    have := out_len v .left c.1 g
    have := out_len v .right c.2 g
    constructor <;> (dsimp only; omega)
theorem dp_ints' {K : PySem.W.Frag} {H : Hp} {a : Addr} {ns : List Int} (h : SqL K H a (ns.map V.int)) : Dp K H (.ref a) (intsD ns) := .lst h (dpAll_ints ns)
theorem en_put {K : PySem.W.Frag} {H H' : Hp} {σ : L2.St} {ρ : Rho} {v : V} {d : PyData} (en : EnvD K (vis (fun _ => false) H) σ ρ) (e : Same H H') (hd : Dp K (vis (fun _ => false) H') v d) (i : Nat) : EnvD K (vis (fun _ => false) H') (σ.set i (some v)) (ρ.set i (some d)) := (en.same (vis_same e)).put hd i
section
variable {P : Program} {w : World} {K : PySem.W.Frag} {mg : Str → Option Value} {base : Heap} {f : Addr} {fd : FuncData}
theorem scLaw : FnScope ["_law_script", "_law_base", "_law_claim_here", "_law_rule_here", "_law_handed", "_law_given", "_law_due", "_law_found", "_law_one"] ["_law_script"] (defScope sLaw) := ⟨rfl, rfl, rfl, by decide +kernel, rfl, by decide +kernel, by decide +kernel⟩
theorem ok_law (D : Df K mg "law" sLaw ["_law_script"] f fd) (B : Blt mg) (h_law_first : Has P w K mg base 2 "_law_first" ["_law_script"] (spPu K 1 gFirst)) (h_law_claim : Has P w K mg base 7 "_law_claim" ["_law_script", "_law_base"] (spPu K 2 gLClaim)) (h_law_rule : Has P w K mg base 6 "_law_rule" ["_law_script", "_law_claim_here", "_law_base"] (spPu K 3 gRule))
    (h_law_known : Has P w K mg base 15 "_law_known" ["_law_rule_here"] (spPu K 1 gKnown)) (h_law_wanted : Has P w K mg base 2 "_law_wanted" ["_law_claim_here", "_law_rule_here"] (spPu K 2 gLWanted)) (h_law_good : Has P w K mg base 3 "_law_good" ["_law_found", "_law_due"] (spPu K 2 gGood)) (h_wanted : Has P w K mg base 19 "wanted" ["claim", "rule"] (spWantedC K)) :
    FnOk P w K mg base CX0 20 f fd ["_law_script"] (spLaw K) := by
  refine D.fn.ok scLaw (fun vs H Q E h => ?_) (fun cdv A outer s H vs Q E hr h => ?_)
  · obtain ⟨a, ns, rfl, _⟩ := h
    rfl
  obtain ⟨a, ns, rfl, hS, h63, q⟩ := h
  have hu : (A.deeper (envOfC "law" (defScope sLaw) s.heap.objs.size f cdv)).units + 65 < cLine := by have := hr.un; omega
  refine ⟨_, (pss_cons (ps_set (i := 1) scLaw.nd rfl (by first | exact Or.inl rfl | exact Or.inr rfl) (pe_op op_mod (pe_callH h_law_first (hr.mono (by omega)) (by rfl) (pa_cons (pv 0) pa_nil)) pe_int))
    (pss_cons (ps_set (i := 2) scLaw.nd rfl (by first | exact Or.inl rfl | exact Or.inr rfl) (pe_callH h_law_claim (hr.mono (by omega)) (by rfl) (pa_cons (pv 0) (pa_cons (pv 1) pa_nil))))
    (pss_cons (ps_set (i := 3) scLaw.nd rfl (by first | exact Or.inl rfl | exact Or.inr rfl) (pe_callH h_law_rule (hr.mono (by omega)) (by rfl) (pa_cons (pv 0) (pa_cons (pv 2) (pa_cons (pv 1) pa_nil)))))
    (pss_cons (ps_set (i := 4) scLaw.nd rfl (by first | exact Or.inl rfl | exact Or.inr rfl) (pe_callH h_law_claim (hr.mono (by omega)) (by rfl) (pa_cons (pv 0) (pa_cons (pv 1) pa_nil))))
    (pss_cons (ps_set (i := 5) scLaw.nd rfl (by first | exact Or.inl rfl | exact Or.inr rfl) (pe_callH h_law_rule (hr.mono (by omega)) (by rfl) (pa_cons (pv 0) (pa_cons (pv 4) (pa_cons (pv 1) pa_nil)))))
    (pss_cons (ps_set (i := 6) scLaw.nd rfl (by first | exact Or.inl rfl | exact Or.inr rfl) pe_non)
    (pss_cons (ps_if (pt_val (pe_callH h_law_known (hr.mono (by omega)) (by rfl) (pa_cons (pv 3) pa_nil))) (pss_one (ps_set (i := 6) scLaw.nd rfl (by first | exact Or.inl rfl | exact Or.inr rfl) (pe_callH h_law_wanted (hr.mono (by omega)) (by rfl) (pa_cons (pv 2) (pa_cons (pv 3) pa_nil))))) pss_nil)
    (pss_cons (ps_set (i := 7) scLaw.nd rfl (by first | exact Or.inl rfl | exact Or.inr rfl) (pe_callH h_wanted (hr.mono (by omega)) (by rfl) (pa_cons (pv 4) (pa_cons (pv 5) pa_nil))))
    (pss_cons (ps_if (PW.pt (pw_or (pt_not (pt_val (pe_callH h_law_good (hr.mono (by omega)) (by rfl) (pa_cons (pv 7) (pa_cons (pv 6) pa_nil))))) (pw_or (pt_cmpR (r := rNeD K) (op_neD (Nat.lt_of_succ_lt hu)) (pv 4) (pv 2) (nomark _)) (pw_or1 (pt_cmpR (r := rNeD K) (op_neD (Nat.lt_of_succ_lt hu)) (pv 5) (pv 3) (nomark _)))))) (pss_one (ps_ret pe_bl)) pss_nil)
    (pss_cons (ps_if (pt_cmp (pc_notN (pv 7))) (pss_one (ps_for PassesOwn.never rfl (pi_list (pv 7)) (pg_name (i := 8) scLaw.nd rfl (by first | exact Or.inl rfl | exact Or.inr rfl)) (pss_cons (ps_expr (pe_bm PySem.F.plainAttrs_list PySem.F.slot_list_append PySem.F.type_list_append mt_append (pe_ix (r := rIxT K) ix_tup (pv 8) pe_int (fun _ _ => rfl)) (pa_cons (pe_tup (pa_cons pe_str (pa_cons (pe_op op_mod (pv 1) pe_int) pa_nil))) pa_nil)))
    (pss_one (ps_expr (pe_bm0 PySem.F.plainAttrs_list PySem.F.slot_list_clear PySem.F.type_list_clear mt_clear (pe_ix (r := rIxT K) ix_tup (pv 8) pe_int (fun _ _ => rfl)))))))) pss_nil)
    (pss_one (ps_ret (pe_and (pe_cmpR (r := rEqD K) (op_eqD (Nat.lt_of_succ_lt hu)) (pv 4) (pv 2) (nomark _)) (pe_and (pe_cmpR (r := rEqD K) (op_eqD (Nat.lt_of_succ_lt hu)) (pv 5) (pv 3) (nomark _)) (pe_one (pe_callH h_law_good (hr.mono (by omega)) (by rfl) (pa_cons (pe_callH h_wanted (hr.mono (by omega)) (by rfl) (pa_cons (pv 4) (pa_cons (pv 5) pa_nil))) (pa_cons (pv 6) pa_nil)))))))))))))))))), ?_⟩
  have en0 : EnvD K (vis (fun _ => false) H) (L2.start ["_law_script", "_law_base", "_law_claim_here", "_law_rule_here", "_law_handed", "_law_given", "_law_due", "_law_found", "_law_one"] [.ref a]) (startD ["_law_script", "_law_base", "_law_claim_here", "_law_rule_here", "_law_handed", "_law_given", "_law_due", "_law_found", "_law_one"] [intsD ns]) := by
    rw [vis_none]
    exact envD_start (.cons (dp_ints' hS) .nil)
  generalize hb : firstN ns % 600 = b
  obtain ⟨⟨g1, g2⟩, wc, l1, l2⟩ := claimN_facts ns b
  have gc := claimN_gd ns b
  have rd := ruleN_drawn ns (cellN ns 12) b
  have lc : LowC (claimN ns b) := cl_low wc gc
  obtain ⟨kb, r, due, kd, wd, sr, hd1, hd2, hfin⟩ := due_ok lc (by omega) (by omega) rd
  generalize hrule : ruleN (claimN ns b) (cellN ns 12) b = dr at kd wd sr hd1 hd2 hfin rd
  have hshp : Shp 7 dr := ruD_shp ⟨fun f hf => (g1 f hf).2.1, fun f hf => (g2 f hf).2.1⟩ rd
  have cshp : Shp 5 (claimN ns b).toD := shp_cl (n := 3) (fun f hf => (g1 f hf).2.1) (fun f hf => (g2 f hf).2.1)
  have cl : ∀ {ρ : Rho}, ρ[0]? = some (some (intsD ns)) → ρ[1]? = some (some (.int b)) → PuE K (tCall (spPu K 2 gLClaim) [] E0 (tCons (tVar 0) (tCons (tVar 1) tNil))) ρ (claimN ns b).toD := fun h h1 => pu_call (pu_cons (pu_var h) (pu_cons (pu_var h1) pu_nil)) rfl ⟨ns, b, rfl, rfl⟩
  generalize hc : claimN ns b = c at *
  dsimp only [tSeq]
  refine pus_set1 (i := 1) (d := .int b) (PuE.cast (pu_mod (pu_call (pu_cons (pu_var rfl) pu_nil) rfl ⟨ns, rfl, rfl⟩) (pu_int 600) (by decide)) (by rw [hb])) _ _ H Hid.none en0 _ fun σ1 H1 e1 en1 => ?_
  refine pus_set1 (i := 2) (d := c.toD) (cl rfl rfl) _ _ H1 Hid.none en1 _ fun σ2 H2 e2 en2 => ?_
  refine pus_set1 (i := 3) (d := dr) (pu_call (pu_cons (pu_var rfl) (pu_cons (pu_var rfl) (pu_cons (pu_var rfl) pu_nil))) rfl ⟨ns, b, by rw [hc], by rw [hc, hrule]⟩) _ _ H2 Hid.none en2 _ fun σ3 H3 e3 en3 => ?_
  refine pus_set1 (i := 4) (d := c.toD) (cl rfl rfl) _ _ H3 Hid.none en3 _ fun σ4 H4 e4 en4 => ?_
  refine pus_set1 (i := 5) (d := dr) (pu_call (pu_cons (pu_var rfl) (pu_cons (pu_var rfl) (pu_cons (pu_var rfl) pu_nil))) rfl ⟨ns, b, by rw [hc], by rw [hc, hrule]⟩) _ _ H4 Hid.none en4 _ fun σ5 H5 e5 en5 => ?_
  dsimp only [tSeq]
  refine pus_set1 (i := 6) (d := .none) pu_non _ _ H5 Hid.none en5 _ fun σ6 H6 e6 en6 => ?_
  have stD : PuS K (tIfS (tB (tCall (spPu K 1 gKnown) [] E0 (tCons (tVar 3) tNil))) (tAsg (tCall (spPu K 2 gLWanted) [] E0 (tCons (tVar 2) (tCons (tVar 3) tNil))) (gName 6)) tNext)
      [some (intsD ns), some (.int b), some c.toD, some dr, some c.toD, some dr, some .none, none, none] (.nx [some (intsD ns), some (.int b), some c.toD, some dr, some c.toD, some dr, some (optD due), none, none]) := by
    refine pus_if (b := kb) (pu_tB (pu_call (pu_cons (pu_var rfl) pu_nil) rfl ⟨c, dr, kb, rfl, kd, rfl⟩)) (fun z => ?_) (fun z => ?_)
    · obtain ⟨ru, e, lr, rfl⟩ := hd1 z
      exact pus_set1 (i := 6) (d := optD (lwants c ru)) (pu_call (pu_cons (pu_var rfl) (pu_cons (pu_var rfl) pu_nil)) rfl ⟨c, ru, by rw [e], lc, lr, rfl⟩)
    · rw [hd2 z]
      exact pus_next
  dsimp only [tSeq]
  refine stD _ _ H6 Hid.none en6 _ fun σ7 H7 e7 en7 => ?_
  -- the slots one by one
  obtain ⟨x0, x1, x2, x3, x4, x5, x6, x7, x8, rfl⟩ : ∃ x0 x1 x2 x3 x4 x5 x6 x7 x8, σ7 = [x0, x1, x2, x3, x4, x5, x6, x7, x8] := by
    have hl := en7.1
    match σ7, hl with
    | [x0, x1, x2, x3, x4, x5, x6, x7, x8], _ => exact ⟨x0, x1, x2, x3, x4, x5, x6, x7, x8, rfl⟩
  have neq : ∀ {ρ : Rho} {i j : Nat} {d : PyData} {n : Nat}, ρ[i]? = some (some d) → ρ[j]? = some (some d) → Shp n d → n ≤ 64 → PuT K (tTest (tOp (rNeD K) (tVar i) (tVar j))) ρ false := fun hi hj hs hn => PuT.cast (pu_tTest (pu_neD (pu_var hi) (pu_var hj) (hs.ok hn) (hs.ok hn))) (by rw [hs.refl]; rfl)
  have eqq : ∀ {ρ : Rho} {i j : Nat} {d : PyData} {n : Nat}, ρ[i]? = some (some d) → ρ[j]? = some (some d) → Shp n d → n ≤ 64 → PuE K (tOp (rEqD K) (tVar i) (tVar j)) ρ (.bool true) := fun hi hj hs hn => PuE.cast (pu_eqD (pu_var hi) (pu_var hj) (hs.ok hn) (hs.ok hn)) (by rw [hs.refl])
  have good : ∀ {ρ : Rho} {te : TE}, PuE K te ρ (optD r) → ρ[6]? = some (some (optD due)) → PuE K (tCall (spPu K 2 gGood) [] E0 (tCons te (tCons (tVar 6) tNil))) ρ (.bool true) := fun h h6 =>
    pu_call (pu_cons h (pu_cons (pu_var h6) pu_nil)) rfl ⟨rfl, by
      rcases hfin with ⟨rfl, rfl⟩ | ⟨fs, cs, rfl, rfl, lcs, hp⟩
      · exact .inl rfl
      · exact .inr ⟨fs, cs, rfl, lcs, hp⟩⟩
  -- the last row
  have last : ∀ {σ : L2.St} {Hn : Hp} {ρ : Rho}, EnvD K (vis (fun _ => false) Hn) σ ρ → ρ[2]? = some (some c.toD) → ρ[3]? = some (some dr) → ρ[4]? = some (some c.toD) → ρ[5]? = some (some dr) → ρ[6]? = some (some (optD due)) →
      tAndV (tOp (rEqD K) (tVar 4) (tVar 2)) (tAndV (tOp (rEqD K) (tVar 5) (tVar 3)) (tCall (spPu K 2 gGood) [] E0 (tCons (tCall (spWantedC K) [] E0 (tCons (tVar 4) (tCons (tVar 5) tNil))) (tCons (tVar 6) tNil)))) σ Hn Q := fun {σ Hn ρ} en h2 h3 h4 h5 h6 => by
    have pe : PuE K (tAndV (tOp (rEqD K) (tVar 4) (tVar 2)) (tAndV (tOp (rEqD K) (tVar 5) (tVar 3)) (tCall (spPu K 2 gGood) [] E0 (tCons (tCall (spWantedC K) [] E0 (tCons (tVar 4) (tCons (tVar 5) tNil))) (tCons (tVar 6) tNil))))) ρ (.bool true) :=
      pu_and (c := true) (eqq h4 h2 cshp (by decide)) fun _ => pu_and (c := true) (eqq h5 h3 hshp (by decide)) fun _ => good (pu_wanted (pu_var h4) (pu_var h5) gc wc sr wd) h6
    exact pe _ σ Hn Hid.none en _ fun v H' _ hv => by
      rw [dp_blI hv]
      exact q H'
  rcases wd with ⟨ru, rfl, ok, hf, rfl⟩ | ⟨no, rfl⟩
  · -- wanted tells claims
    obtain ⟨v4, a4, d4⟩ := en7.2 4 c.toD rfl
    obtain ⟨v5, a5, d5⟩ := en7.2 5 ru.toD rfl
    obtain ⟨v1, a1, d1⟩ := en7.2 1 (.int b) rfl
    obtain rfl := dp_intI d1
    cases Option.some.inj a1
    rw [vis_none] at d4 d5
    refine ⟨v4, a4, v5, a5, v4, v5, c, ru.toD, rfl, d4, d5, gc, wc, sr, fun ru' er ok' hf' p ys H8 e8 np hp hys => ?_, fun no => absurd hf (by rw [no ru rfl ok]; decide)⟩
    obtain rfl := ruD_inj er
    have dp8 : Dp K H8 (.ref p) (optD (some (wants c ru))) := .lst (SqL.of hp) (by
      have := newcls_vis (K := K) (M := fun _ => false) Hid.none e8 hys fun q z => upd_none z
      rw [vis_none] at this
      exact this)
    have en8 : EnvD K (vis (fun _ => false) H8) [x0, some (.int b), x2, x3, x4, x5, x6, some (.ref p), x8] [some (intsD ns), some (.int b), some c.toD, some ru.toD, some c.toD, some ru.toD, some (optD due), some (optD (some (wants c ru))), none] :=
      en_put en7 e8 (by rw [vis_none]; exact dp8) 7
    try dsimp only [tSeq, tIfS, tNext, tRet]
    refine pu_or_r (PuT.cast (pu_tNot (pu_tB (good (pu_var rfl) rfl))) rfl) (pu_or_r (neq (i := 4) (j := 2) rfl rfl cshp (by decide)) (neq (i := 5) (j := 3) rfl rfl hshp (by decide))) _ _ H8 Hid.none en8 _ fun H9 e9 => ?_
    refine iteF ?_
    have en9 := en8.same (vis_same e9)
    try dsimp only [tSeq, tIfS, tNext]
    refine pu_tB (PuE.cast (pu_notN (pu_var (i := 7) rfl)) rfl) _ _ H9 Hid.none en9 _ fun H10 e10 => ?_
    refine iteT ?_
    have en10 := en9.same (vis_same e10)
    have e8a := e8.trans (e9.trans e10)
    refine ⟨.ref p, rfl, p, rfl, ⟨ys, SqL.of (e10 _ _ (e9 _ _ hp))⟩, ?_⟩
    refine for_list (K := K) (a := p) (xs := ys) (fun i σ' H' => (∃ y8, σ' = [x0, some (.int b), x2, x3, x4, x5, x6, some (.ref p), y8]) ∧ Same H7 H' ∧ H' p = some (.lst ys) ∧ ∀ (j : Nat) (v : V), ys[j]? = some v → ∃ (t aa bb : Addr), v = .ref t ∧ SqT K H' t [.ref aa, .ref bb] ∧ upd H7 p (.lst []) aa = none ∧ upd H7 p (.lst []) bb = none ∧ Ll (2000 + i) H' aa ∧ Ll (2000 + i) H' bb)
      ⟨⟨x8, rfl⟩, e8a, e10 _ _ (e9 _ _ hp), fun j v hj => ?_⟩ (fun i σ' H' _ h => SqL.of h.2.2.1) (fun i x σ' H' hx h => ?_) (fun σ' H' h => ?_)
    · have get : ∀ {ys : List V} {cs : List Cl}, Paired (NewCl K (upd H7 p (.lst [])) H8) ys cs → ∀ (j : Nat) (v : V), ys[j]? = some v → ∃ cl ∈ cs, NewCl K (upd H7 p (.lst [])) H8 v cl := by
        intro ys cs hp
        induction hp with
        | nil => intro j v h; cases h
        | cons h t ih =>
          intro j v hj
          cases j with
          | zero => cases hj; exact ⟨_, List.mem_cons_self, h⟩
          | succ j =>
            obtain ⟨cl, m, n⟩ := ih j v hj
            exact ⟨cl, List.mem_cons_of_mem _ m, n⟩
      obtain ⟨cl, hm, t, aa, bb, xs, zs, h1, h2, h3, h4, h5, h6, h7, h8⟩ := get hys j v hj
      obtain ⟨w1, w2⟩ := wants_len (by omega) (by omega) ok cl hm
      have s := e9.trans e10
      exact ⟨t, aa, bb, h1, sqT_same s h2, h3, h4, ⟨xs, s _ _ h5, by rw [dpAll_len h7, List.length_map]; exact w1⟩, ⟨zs, s _ _ h6, by rw [dpAll_len h8, List.length_map]; exact w2⟩⟩
    · obtain ⟨⟨y8, rfl⟩, sm, hpl, hall⟩ := h
      obtain ⟨t, aa, bb, rfl, ht, na, nb, la, lb⟩ := hall i x hx
      have hi2 : i < ys.length := (List.getElem?_eq_some_iff.mp hx).1
      have yl : ys.length ≤ 100 := by
        have e := Paired.length hys
        have : (wants c ru).length ≤ 2 := by
          cases ru with
          | more m => exact Nat.le_succ 1
          | fm v g => show ((putIn v g).map _).length ≤ 2; rw [List.length_map]; exact putIn_len v g
        omega
      obtain ⟨xs, ha, lxs⟩ := la
      have va : ∀ r, upd H7 p (.lst []) r = none → r ≠ p ∧ H7 r = none := fun r n => by
        by_cases z : r = p
        · rw [z, upd_same] at n; cases n
        · rw [upd_ne z] at n; exact ⟨z, n⟩
      refine ⟨.ref t, rfl, t, _, 0, _, rfl, rfl, ht, at0 _ _, .inl ⟨rfl, _, SqL.of ha⟩, ?_⟩
      refine ⟨.int b, rfl, b, 100, rfl, rfl, (by show (0 : Int) < 100; decide), sl1000 (by show 2 ≤ 100000; decide), fun tp ntp => ?_⟩
      have s1 := same_new ntp (HO.tup [V.str ("sign" : Str), V.int (b % 100)])
      generalize hH1 : upd H' tp (.tup [V.str ("sign" : Str), V.int (b % 100)]) = Ha at s1
      refine ⟨aa, xs, .ref tp, rfl, rfl, s1 _ _ ha, sl1001 (by omega), ?_⟩
      have tk1 : Tk K Ha (upd Ha aa (.lst (xs ++ [.ref tp]))) := Tk.of_but (But.upd aa Ha _) (.inl ⟨_, s1 _ _ ha⟩)
      have lnew : (xs ++ [V.ref tp]).length ≤ 2000 + (i + 1) := by rw [List.length_append, List.length_singleton]; omega
      have lb2 : Ll (2000 + (i + 1)) (upd Ha aa (.lst (xs ++ [.ref tp]))) bb := (lb.same s1).upd (by omega) lnew
      have sAa : Same H7 (upd Ha aa (.lst (xs ++ [.ref tp]))) := same_upd (sm.trans s1) (va aa na).2
      generalize hHb : upd Ha aa (.lst (xs ++ [.ref tp])) = Hb at tk1 lb2 sAa
      obtain ⟨zs, hb2, lzs⟩ := lb2
      have ht2 := tk1 _ _ (sqT_same s1 ht)
      refine ⟨.ref t, rfl, t, _, 1, _, rfl, rfl, ht2, at1 _ _ _, .inl ⟨rfl, _, SqL.of hb2⟩, bb, zs, rfl, rfl, hb2, ?_⟩
      have tk2 : Tk K Hb (upd Hb bb (.lst [])) := Tk.of_but (But.upd bb Hb _) (.inl ⟨_, hb2⟩)
      have pn : ∀ r u, H' r = some u → r ≠ tp := fun r u z e => by rw [e, ntp] at z; cases z
      refine ⟨⟨_, rfl⟩, same_upd sAa (va bb nb).2, ?_, fun j v hj => ?_⟩
      · rw [upd_ne (va bb nb).1.symm, ← hHb, upd_ne (va aa na).1.symm]
        exact s1 _ _ hpl
      · obtain ⟨t', a', b', rfl, h2, h3, h4, h5, h6⟩ := hall j v hj
        have step : ∀ r, Ll (2000 + i) H' r → Ll (2000 + (i + 1)) (upd Hb bb (.lst [])) r := fun r z => by
          have z1 := (z.same s1).upd (q := aa) (m := 2000 + (i + 1)) (by omega) lnew
          rw [hHb] at z1
          exact z1.upd (Nat.le_refl _) (Nat.zero_le _)
        exact ⟨t', a', b', rfl, tk2 _ _ (tk1 _ _ (sqT_same s1 h2)), h3, h4, step _ h5, step _ h6⟩
    · obtain ⟨⟨y8, rfl⟩, sm, hpl, hall⟩ := h
      have en11 : EnvD K (vis (fun _ => false) H') [x0, some (.int b), x2, x3, x4, x5, x6, x7, x8] [some (intsD ns), some (.int b), some c.toD, some ru.toD, some c.toD, some ru.toD, some (optD due), none, none] := en7.same (vis_same sm)
      have en12 : EnvD K (vis (fun _ => false) H') [x0, some (.int b), x2, x3, x4, x5, x6, some (.ref p), y8] [some (intsD ns), some (.int b), some c.toD, some ru.toD, some c.toD, some ru.toD, some (optD due), none, none] := by
        refine ⟨rfl, fun i d hd => ?_⟩
        obtain ⟨v, hv, dv⟩ := en11.2 i d hd
        refine ⟨v, ?_, dv⟩
        match i, hd, hv with
        | 0, _, hv => exact hv
        | 1, _, hv => exact hv
        | 2, _, hv => exact hv
        | 3, _, hv => exact hv
        | 4, _, hv => exact hv
        | 5, _, hv => exact hv
        | 6, _, hv => exact hv
        | 7, hd, _ => cases hd
        | 8, hd, _ => cases hd
        | n + 9, hd, _ => cases hd
      exact last en12 rfl rfl rfl rfl rfl
  · -- it tells None
    refine pus_set1 (i := 7) (d := .none) (pu_wanted (r := none) (pu_var (i := 4) rfl) (pu_var (i := 5) rfl) gc wc sr (.inr ⟨no, rfl⟩)) _ _ H7 Hid.none en7 _ fun σ8 H8 e8 en8 => ?_
    try dsimp only [tSeq, tIfS, tNext, tRet]
    refine pu_or_r (PuT.cast (pu_tNot (pu_tB (good (pu_var rfl) rfl))) rfl) (pu_or_r (neq (i := 4) (j := 2) rfl rfl cshp (by decide)) (neq (i := 5) (j := 3) rfl rfl hshp (by decide))) _ _ H8 Hid.none en8 _ fun H9 e9 => ?_
    refine iteF ?_
    have en9 := en8.same (vis_same e9)
    try dsimp only [tSeq, tIfS, tNext]
    refine pu_tB (PuE.cast (pu_notN (pu_var (i := 7) rfl)) rfl) _ _ H9 Hid.none en9 _ fun H10 e10 => ?_
    refine iteF ?_
    exact last (en9.same (vis_same e10)) rfl rfl rfl rfl rfl
end
end Lm
set_option Elab.async false
set_option linter.all false
set_option maxRecDepth 100000
set_option maxHeartbeats 2000000
namespace Lm
open PySem PySem.Spec PyProof.Rows L2
theorem isStr_str (y : Str) (t : Tok) (x : Str) : Value.isStr (.str y t) x = (y == x) := rfl
theorem many_mk {K : PySem.W.Frag} {w : World} {dd : Addr} {t1 t2 t3 t4 u1 u2 u3 u4 : Tok} {g1 g2 g3 g4 : Int} {m : Nat}
    (ld : K.lookup dd = some ⟨.type "dict", none, .dict #[⟨g1, .str "not" t1, .int 1 u1⟩, ⟨g2, .str "and" t2, .int 2 u2⟩, ⟨g3, .str "or" t3, .int 2 u3⟩, ⟨g4, .str "then" t4, .int 2 u4⟩] m, #[]⟩)
    (e1 : g1 = PyData.keyHash w.params "not") (e2 : g2 = PyData.keyHash w.params "and") (e3 : g3 = PyData.keyHash w.params "or") (e4 : g4 = PyData.keyHash w.params "then") (low : (dd == sysModules) = false) :
    ManyD K w dd #[⟨g1, .str "not" t1, .int 1 u1⟩, ⟨g2, .str "and" t2, .int 2 u2⟩, ⟨g3, .str "or" t3, .int 2 u3⟩, ⟨g4, .str "then" t4, .int 2 u4⟩] m := by
  have at_ : ∀ x : Str, PySem.W.nsIn K dd x = (match [(⟨g1, .str "not" t1, .int 1 u1⟩ : DictEntry), ⟨g2, .str "and" t2, .int 2 u2⟩, ⟨g3, .str "or" t3, .int 2 u3⟩, ⟨g4, .str "then" t4, .int 2 u4⟩].find? (·.key.isStr x) with
      | some e => some (some e.val)
      | none => some none) := fun x => by
    unfold PySem.W.nsIn
    rw [ld]
    rfl
  have n1 : (("not" : Str) == ("and" : Str)) = false := by decide +kernel
  have n2 : (("not" : Str) == ("or" : Str)) = false := by decide +kernel
  have n3 : (("not" : Str) == ("then" : Str)) = false := by decide +kernel
  have n4 : (("and" : Str) == ("or" : Str)) = false := by decide +kernel
  have n5 : (("and" : Str) == ("then" : Str)) = false := by decide +kernel
  have n6 : (("or" : Str) == ("then" : Str)) = false := by decide +kernel
  refine ⟨⟨ld, ⟨⟨_, _, rfl, e1⟩, ⟨_, _, rfl, e2⟩, ⟨_, _, rfl, e3⟩, ⟨_, _, rfl, e4⟩, True.intro⟩, low⟩, ⟨u1, ?_⟩, ⟨u2, ?_⟩, ⟨u3, ?_⟩, ⟨u4, ?_⟩, fun x hx => ?_⟩
  · rw [at_]
    simp only [List.find?_cons, isStr_str, beq_self_eq_true]
  · rw [at_]
    simp only [List.find?_cons, isStr_str, beq_self_eq_true, n1]
  · rw [at_]
    simp only [List.find?_cons, isStr_str, beq_self_eq_true, n2, n4]
  · rw [at_]
    simp only [List.find?_cons, isStr_str, beq_self_eq_true, n3, n5, n6]
  · rw [at_]
    unfold arOf at hx
    split at hx
    · cases hx
    rename_i h1
    split at hx
    · cases hx
    rename_i h2
    split at hx
    · cases hx
    rename_i h3
    split at hx
    · cases hx
    rename_i h4
    have k1 : (("not" : Str) == x) = false := beq_eq_false_iff_ne.mpr fun z => h1 z.symm
    have k2 : (("and" : Str) == x) = false := beq_eq_false_iff_ne.mpr fun z => h2 z.symm
    have k3 : (("or" : Str) == x) = false := beq_eq_false_iff_ne.mpr fun z => h3 z.symm
    have k4 : (("then" : Str) == x) = false := beq_eq_false_iff_ne.mpr fun z => h4 z.symm
    simp only [List.find?_cons, isStr_str, k1, k2, k3, k4, List.find?_nil]
theorem all_mk {l : PySem.W.OpenLaw} {w : World} {K : PySem.W.Frag} {h : Heap} {mg : Str → Option Value} {fa dd : Addr} (X : K.In h) (G : h.Ns mainGlobals mg) (hfa : mg "law" = some (.ref fa))
    {f0 f1 f2 f3 f4 f5 f6 f7 f8 f9 f10 f11 f12 f13 f14 f15 f16 f17 f18 f19 f20 f21 f22 f23 f24 f25 f26 f27 f28 f29 f30 f31 f32 f33 f34 f35 CLineError CBadClaim : Addr} {od0 an0 od1 an1 od2 an2 od3 an3 od4 an4 od5 an5 od6 an6 od7 an7 od8 an8 od9 an9 od10 an10 od11 an11 od12 an12 od13 an13 od14 an14 od15 an15 od16 an16 od17 an17 od18 an18 od19 an19 od20 an20 od21 an21 od22 an22 od23 an23 od24 an24 od25 an25 od26 an26 od27 an27 od28 an28 od29 an29 od30 an30 od31 an31 od32 an32 od33 an33 od34 an34 od35 an35 : Option Addr} {sl0 sl1 sl2 sl3 sl4 sl5 sl6 sl7 sl8 sl9 sl10 sl11 sl12 sl13 sl14 sl15 sl16 sl17 sl18 sl19 sl20 sl21 sl22 sl23 sl24 sl25 sl26 sl27 sl28 sl29 sl30 sl31 sl32 sl33 sl34 sl35 : Array (Option Value)} {oc0 kV0 dc0 pm0 cd0 ct0 oc1 kV1 dc1 pm1 cd1 ct1 oc2 kV2 dc2 pm2 cd2 ct2 oc3 kV3 dc3 pm3 cd3 ct3 oc4 kV4 dc4 pm4 cd4 ct4 oc5 kV5 dc5 pm5 cd5 ct5 oc6 kV6 dc6 pm6 cd6 ct6 oc7 kV7 dc7 pm7 cd7 ct7 oc8 kV8 dc8 pm8 cd8 ct8 oc9 kV9 dc9 pm9 cd9 ct9 oc10 kV10 dc10 pm10 cd10 ct10 oc11 kV11 dc11 pm11 cd11 ct11 oc12 kV12 dc12 pm12 cd12 ct12 oc13 kV13 dc13 pm13 cd13 ct13 oc14 kV14 dc14 pm14 cd14 ct14 oc15 kV15 dc15 pm15 cd15 ct15 oc16 kV16 dc16 pm16 cd16 ct16 oc17 kV17 dc17 pm17 cd17 ct17 oc18 kV18 dc18 pm18 cd18 ct18 oc19 kV19 dc19 pm19 cd19 ct19 oc20 kV20 dc20 pm20 cd20 ct20 oc21 kV21 dc21 pm21 cd21 ct21 oc22 kV22 dc22 pm22 cd22 ct22 oc23 kV23 dc23 pm23 cd23 ct23 oc24 kV24 dc24 pm24 cd24 ct24 oc25 kV25 dc25 pm25 cd25 ct25 oc26 kV26 dc26 pm26 cd26 ct26 oc27 kV27 dc27 pm27 cd27 ct27 oc28 kV28 dc28 pm28 cd28 ct28 oc29 kV29 dc29 pm29 cd29 ct29 oc30 kV30 dc30 pm30 cd30 ct30 oc31 kV31 dc31 pm31 cd31 ct31 oc32 kV32 dc32 pm32 cd32 ct32 oc33 kV33 dc33 pm33 cd33 ct33 oc34 kV34 dc34 pm34 cd34 ct34 oc35 kV35 dc35 pm35 cd35 ct35 : Value}
    {tc0 tc1 tc2 t1 t2 t3 t4 u1 u2 u3 u4 : Tok} {g1 g2 g3 g4 : Int} {m : Nat}
    (a0 : PySem.W.nsIn K mainGlobals "is_number" = some (some (.ref f0))) (l0 : K.lookup f0 = some ⟨oc0, od0, .func (PySem.W.fnOf "is_number" "is_number" (defArgs sIsNum) (defBody sIsNum) (defScope sIsNum) .none kV0 dc0 pm0 an0 cd0 ct0), sl0⟩) (c0 : PySem.W.codeIn K cd0 "is_number" = true) (k0 : PySem.W.keepIn K (.ref f0) = true)
    (a1 : PySem.W.nsIn K mainGlobals "is_formula" = some (some (.ref f1))) (l1 : K.lookup f1 = some ⟨oc1, od1, .func (PySem.W.fnOf "is_formula" "is_formula" (defArgs sIsFormula) (defBody sIsFormula) (defScope sIsFormula) .none kV1 dc1 pm1 an1 cd1 ct1), sl1⟩) (c1 : PySem.W.codeIn K cd1 "is_formula" = true) (k1 : PySem.W.keepIn K (.ref f1) = true)
    (a2 : PySem.W.nsIn K mainGlobals "_is_formula_of" = some (some (.ref f2))) (l2 : K.lookup f2 = some ⟨oc2, od2, .func (PySem.W.fnOf "_is_formula_of" "_is_formula_of" (defArgs sIsF) (defBody sIsF) (defScope sIsF) .none kV2 dc2 pm2 an2 cd2 ct2), sl2⟩) (c2 : PySem.W.codeIn K cd2 "_is_formula_of" = true) (k2 : PySem.W.keepIn K (.ref f2) = true)
    (a3 : PySem.W.nsIn K mainGlobals "_is_sign" = some (some (.ref f3))) (l3 : K.lookup f3 = some ⟨oc3, od3, .func (PySem.W.fnOf "_is_sign" "_is_sign" (defArgs sIsSign) (defBody sIsSign) (defScope sIsSign) .none kV3 dc3 pm3 an3 cd3 ct3), sl3⟩) (c3 : PySem.W.codeIn K cd3 "_is_sign" = true) (k3 : PySem.W.keepIn K (.ref f3) = true)
    (a4 : PySem.W.nsIn K mainGlobals "inner_formulas" = some (some (.ref f4))) (l4 : K.lookup f4 = some ⟨oc4, od4, .func (PySem.W.fnOf "inner_formulas" "inner_formulas" (defArgs sInner) (defBody sInner) (defScope sInner) .none kV4 dc4 pm4 an4 cd4 ct4), sl4⟩) (c4 : PySem.W.codeIn K cd4 "inner_formulas" = true) (k4 : PySem.W.keepIn K (.ref f4) = true)
    (a5 : PySem.W.nsIn K mainGlobals "words" = some (some (.ref f5))) (l5 : K.lookup f5 = some ⟨oc5, od5, .func (PySem.W.fnOf "words" "words" (defArgs sWords) (defBody sWords) (defScope sWords) .none kV5 dc5 pm5 an5 cd5 ct5), sl5⟩) (c5 : PySem.W.codeIn K cd5 "words" = true) (k5 : PySem.W.keepIn K (.ref f5) = true)
    (a6 : PySem.W.nsIn K mainGlobals "is_claim" = some (some (.ref f6))) (l6 : K.lookup f6 = some ⟨oc6, od6, .func (PySem.W.fnOf "is_claim" "is_claim" (defArgs sIsClaim) (defBody sIsClaim) (defScope sIsClaim) .none kV6 dc6 pm6 an6 cd6 ct6), sl6⟩) (c6 : PySem.W.codeIn K cd6 "is_claim" = true) (k6 : PySem.W.keepIn K (.ref f6) = true)
    (a7 : PySem.W.nsIn K mainGlobals "refuse_no_claim" = some (some (.ref f7))) (l7 : K.lookup f7 = some ⟨oc7, od7, .func (PySem.W.fnOf "refuse_no_claim" "refuse_no_claim" (defArgs sNoClaim) (defBody sNoClaim) (defScope sNoClaim) .none kV7 dc7 pm7 an7 cd7 ct7), sl7⟩) (c7 : PySem.W.codeIn K cd7 "refuse_no_claim" = true) (k7 : PySem.W.keepIn K (.ref f7) = true)
    (a8 : PySem.W.nsIn K mainGlobals "stands_in" = some (some (.ref f8))) (l8 : K.lookup f8 = some ⟨oc8, od8, .func (PySem.W.fnOf "stands_in" "stands_in" (defArgs sStandsIn) (defBody sStandsIn) (defScope sStandsIn) .none kV8 dc8 pm8 an8 cd8 ct8), sl8⟩) (c8 : PySem.W.codeIn K cd8 "stands_in" = true) (k8 : PySem.W.keepIn K (.ref f8) = true)
    (a9 : PySem.W.nsIn K mainGlobals "_all_stand_in" = some (some (.ref f9))) (l9 : K.lookup f9 = some ⟨oc9, od9, .func (PySem.W.fnOf "_all_stand_in" "_all_stand_in" (defArgs sAllIn) (defBody sAllIn) (defScope sAllIn) .none kV9 dc9 pm9 an9 cd9 ct9), sl9⟩) (c9 : PySem.W.codeIn K cd9 "_all_stand_in" = true) (k9 : PySem.W.keepIn K (.ref f9) = true)
    (a10 : PySem.W.nsIn K mainGlobals "told_once" = some (some (.ref f10))) (l10 : K.lookup f10 = some ⟨oc10, od10, .func (PySem.W.fnOf "told_once" "told_once" (defArgs sToldOnce) (defBody sToldOnce) (defScope sToldOnce) .none kV10 dc10 pm10 an10 cd10 ct10), sl10⟩) (c10 : PySem.W.codeIn K cd10 "told_once" = true) (k10 : PySem.W.keepIn K (.ref f10) = true)
    (a11 : PySem.W.nsIn K mainGlobals "each_once" = some (some (.ref f11))) (l11 : K.lookup f11 = some ⟨oc11, od11, .func (PySem.W.fnOf "each_once" "each_once" (defArgs sEachOnce) (defBody sEachOnce) (defScope sEachOnce) .none kV11 dc11 pm11 an11 cd11 ct11), sl11⟩) (c11 : PySem.W.codeIn K cd11 "each_once" = true) (k11 : PySem.W.keepIn K (.ref f11) = true)
    (a12 : PySem.W.nsIn K mainGlobals "wanted" = some (some (.ref f12))) (l12 : K.lookup f12 = some ⟨oc12, od12, .func (PySem.W.fnOf "wanted" "wanted" (defArgs sWanted) (defBody sWanted) (defScope sWanted) .none kV12 dc12 pm12 an12 cd12 ct12), sl12⟩) (c12 : PySem.W.codeIn K cd12 "wanted" = true) (k12 : PySem.W.keepIn K (.ref f12) = true)
    (a13 : PySem.W.nsIn K mainGlobals "_fits" = some (some (.ref f13))) (l13 : K.lookup f13 = some ⟨oc13, od13, .func (PySem.W.fnOf "_fits" "_fits" (defArgs sFits) (defBody sFits) (defScope sFits) .none kV13 dc13 pm13 an13 cd13 ct13), sl13⟩) (c13 : PySem.W.codeIn K cd13 "_fits" = true) (k13 : PySem.W.keepIn K (.ref f13) = true)
    (a14 : PySem.W.nsIn K mainGlobals "led_to" = some (some (.ref f14))) (l14 : K.lookup f14 = some ⟨oc14, od14, .func (PySem.W.fnOf "led_to" "led_to" (defArgs sLedTo) (defBody sLedTo) (defScope sLedTo) .none kV14 dc14 pm14 an14 cd14 ct14), sl14⟩) (c14 : PySem.W.codeIn K cd14 "led_to" = true) (k14 : PySem.W.keepIn K (.ref f14) = true)
    (a15 : PySem.W.nsIn K mainGlobals "put_in" = some (some (.ref f15))) (l15 : K.lookup f15 = some ⟨oc15, od15, .func (PySem.W.fnOf "put_in" "put_in" (defArgs sPutIn) (defBody sPutIn) (defScope sPutIn) .none kV15 dc15 pm15 an15 cd15 ct15), sl15⟩) (c15 : PySem.W.codeIn K cd15 "put_in" = true) (k15 : PySem.W.keepIn K (.ref f15) = true)
    (a16 : PySem.W.nsIn K mainGlobals "_put_in_by_left" = some (some (.ref f16))) (l16 : K.lookup f16 = some ⟨oc16, od16, .func (PySem.W.fnOf "_put_in_by_left" "_put_in_by_left" (defArgs sPutL) (defBody sPutL) (defScope sPutL) .none kV16 dc16 pm16 an16 cd16 ct16), sl16⟩) (c16 : PySem.W.codeIn K cd16 "_put_in_by_left" = true) (k16 : PySem.W.keepIn K (.ref f16) = true)
    (a17 : PySem.W.nsIn K mainGlobals "_put_in_by_right" = some (some (.ref f17))) (l17 : K.lookup f17 = some ⟨oc17, od17, .func (PySem.W.fnOf "_put_in_by_right" "_put_in_by_right" (defArgs sPutR) (defBody sPutR) (defScope sPutR) .none kV17 dc17 pm17 an17 cd17 ct17), sl17⟩) (c17 : PySem.W.codeIn K cd17 "_put_in_by_right" = true) (k17 : PySem.W.keepIn K (.ref f17) = true)
    (a18 : PySem.W.nsIn K mainGlobals "_law_cell_at" = some (some (.ref f18))) (l18 : K.lookup f18 = some ⟨oc18, od18, .func (PySem.W.fnOf "_law_cell_at" "_law_cell_at" (defArgs sCell) (defBody sCell) (defScope sCell) .none kV18 dc18 pm18 an18 cd18 ct18), sl18⟩) (c18 : PySem.W.codeIn K cd18 "_law_cell_at" = true) (k18 : PySem.W.keepIn K (.ref f18) = true)
    (a19 : PySem.W.nsIn K mainGlobals "_law_first" = some (some (.ref f19))) (l19 : K.lookup f19 = some ⟨oc19, od19, .func (PySem.W.fnOf "_law_first" "_law_first" (defArgs sFirst) (defBody sFirst) (defScope sFirst) .none kV19 dc19 pm19 an19 cd19 ct19), sl19⟩) (c19 : PySem.W.codeIn K cd19 "_law_first" = true) (k19 : PySem.W.keepIn K (.ref f19) = true)
    (a20 : PySem.W.nsIn K mainGlobals "_law_count" = some (some (.ref f20))) (l20 : K.lookup f20 = some ⟨oc20, od20, .func (PySem.W.fnOf "_law_count" "_law_count" (defArgs sCount) (defBody sCount) (defScope sCount) .none kV20 dc20 pm20 an20 cd20 ct20), sl20⟩) (c20 : PySem.W.codeIn K cd20 "_law_count" = true) (k20 : PySem.W.keepIn K (.ref f20) = true)
    (a21 : PySem.W.nsIn K mainGlobals "_law_sign" = some (some (.ref f21))) (l21 : K.lookup f21 = some ⟨oc21, od21, .func (PySem.W.fnOf "_law_sign" "_law_sign" (defArgs sSign) (defBody sSign) (defScope sSign) .none kV21 dc21 pm21 an21 cd21 ct21), sl21⟩) (c21 : PySem.W.codeIn K cd21 "_law_sign" = true) (k21 : PySem.W.keepIn K (.ref f21) = true)
    (a22 : PySem.W.nsIn K mainGlobals "_law_formula" = some (some (.ref f22))) (l22 : K.lookup f22 = some ⟨oc22, od22, .func (PySem.W.fnOf "_law_formula" "_law_formula" (defArgs sFormula) (defBody sFormula) (defScope sFormula) .none kV22 dc22 pm22 an22 cd22 ct22), sl22⟩) (c22 : PySem.W.codeIn K cd22 "_law_formula" = true) (k22 : PySem.W.keepIn K (.ref f22) = true)
    (a23 : PySem.W.nsIn K mainGlobals "_law_with" = some (some (.ref f23))) (l23 : K.lookup f23 = some ⟨oc23, od23, .func (PySem.W.fnOf "_law_with" "_law_with" (defArgs sWith) (defBody sWith) (defScope sWith) .none kV23 dc23 pm23 an23 cd23 ct23), sl23⟩) (c23 : PySem.W.codeIn K cd23 "_law_with" = true) (k23 : PySem.W.keepIn K (.ref f23) = true)
    (a24 : PySem.W.nsIn K mainGlobals "_law_without" = some (some (.ref f24))) (l24 : K.lookup f24 = some ⟨oc24, od24, .func (PySem.W.fnOf "_law_without" "_law_without" (defArgs sWithout) (defBody sWithout) (defScope sWithout) .none kV24 dc24 pm24 an24 cd24 ct24), sl24⟩) (c24 : PySem.W.codeIn K cd24 "_law_without" = true) (k24 : PySem.W.keepIn K (.ref f24) = true)
    (a25 : PySem.W.nsIn K mainGlobals "_law_within" = some (some (.ref f25))) (l25 : K.lookup f25 = some ⟨oc25, od25, .func (PySem.W.fnOf "_law_within" "_law_within" (defArgs sWithin) (defBody sWithin) (defScope sWithin) .none kV25 dc25 pm25 an25 cd25 ct25), sl25⟩) (c25 : PySem.W.codeIn K cd25 "_law_within" = true) (k25 : PySem.W.keepIn K (.ref f25) = true)
    (a26 : PySem.W.nsIn K mainGlobals "_law_split" = some (some (.ref f26))) (l26 : K.lookup f26 = some ⟨oc26, od26, .func (PySem.W.fnOf "_law_split" "_law_split" (defArgs sSplit) (defBody sSplit) (defScope sSplit) .none kV26 dc26 pm26 an26 cd26 ct26), sl26⟩) (c26 : PySem.W.codeIn K cd26 "_law_split" = true) (k26 : PySem.W.keepIn K (.ref f26) = true)
    (a27 : PySem.W.nsIn K mainGlobals "_law_wanted" = some (some (.ref f27))) (l27 : K.lookup f27 = some ⟨oc27, od27, .func (PySem.W.fnOf "_law_wanted" "_law_wanted" (defArgs sLWanted) (defBody sLWanted) (defScope sLWanted) .none kV27 dc27 pm27 an27 cd27 ct27), sl27⟩) (c27 : PySem.W.codeIn K cd27 "_law_wanted" = true) (k27 : PySem.W.keepIn K (.ref f27) = true)
    (a28 : PySem.W.nsIn K mainGlobals "_law_words" = some (some (.ref f28))) (l28 : K.lookup f28 = some ⟨oc28, od28, .func (PySem.W.fnOf "_law_words" "_law_words" (defArgs sLWords) (defBody sLWords) (defScope sLWords) .none kV28 dc28 pm28 an28 cd28 ct28), sl28⟩) (c28 : PySem.W.codeIn K cd28 "_law_words" = true) (k28 : PySem.W.keepIn K (.ref f28) = true)
    (a29 : PySem.W.nsIn K mainGlobals "_law_side" = some (some (.ref f29))) (l29 : K.lookup f29 = some ⟨oc29, od29, .func (PySem.W.fnOf "_law_side" "_law_side" (defArgs sSide) (defBody sSide) (defScope sSide) .none kV29 dc29 pm29 an29 cd29 ct29), sl29⟩) (c29 : PySem.W.codeIn K cd29 "_law_side" = true) (k29 : PySem.W.keepIn K (.ref f29) = true)
    (a30 : PySem.W.nsIn K mainGlobals "_law_claim" = some (some (.ref f30))) (l30 : K.lookup f30 = some ⟨oc30, od30, .func (PySem.W.fnOf "_law_claim" "_law_claim" (defArgs sLClaim) (defBody sLClaim) (defScope sLClaim) .none kV30 dc30 pm30 an30 cd30 ct30), sl30⟩) (c30 : PySem.W.codeIn K cd30 "_law_claim" = true) (k30 : PySem.W.keepIn K (.ref f30) = true)
    (a31 : PySem.W.nsIn K mainGlobals "_law_rule" = some (some (.ref f31))) (l31 : K.lookup f31 = some ⟨oc31, od31, .func (PySem.W.fnOf "_law_rule" "_law_rule" (defArgs sLRule) (defBody sLRule) (defScope sLRule) .none kV31 dc31 pm31 an31 cd31 ct31), sl31⟩) (c31 : PySem.W.codeIn K cd31 "_law_rule" = true) (k31 : PySem.W.keepIn K (.ref f31) = true)
    (a32 : PySem.W.nsIn K mainGlobals "_law_known" = some (some (.ref f32))) (l32 : K.lookup f32 = some ⟨oc32, od32, .func (PySem.W.fnOf "_law_known" "_law_known" (defArgs sKnown) (defBody sKnown) (defScope sKnown) .none kV32 dc32 pm32 an32 cd32 ct32), sl32⟩) (c32 : PySem.W.codeIn K cd32 "_law_known" = true) (k32 : PySem.W.keepIn K (.ref f32) = true)
    (a33 : PySem.W.nsIn K mainGlobals "_law_claim_is" = some (some (.ref f33))) (l33 : K.lookup f33 = some ⟨oc33, od33, .func (PySem.W.fnOf "_law_claim_is" "_law_claim_is" (defArgs sLClaimIs) (defBody sLClaimIs) (defScope sLClaimIs) .none kV33 dc33 pm33 an33 cd33 ct33), sl33⟩) (c33 : PySem.W.codeIn K cd33 "_law_claim_is" = true) (k33 : PySem.W.keepIn K (.ref f33) = true)
    (a34 : PySem.W.nsIn K mainGlobals "_law_good" = some (some (.ref f34))) (l34 : K.lookup f34 = some ⟨oc34, od34, .func (PySem.W.fnOf "_law_good" "_law_good" (defArgs sGood) (defBody sGood) (defScope sGood) .none kV34 dc34 pm34 an34 cd34 ct34), sl34⟩) (c34 : PySem.W.codeIn K cd34 "_law_good" = true) (k34 : PySem.W.keepIn K (.ref f34) = true)
    (a35 : PySem.W.nsIn K mainGlobals "law" = some (some (.ref f35))) (l35 : K.lookup f35 = some ⟨oc35, od35, .func (PySem.W.fnOf "law" "law" (defArgs sLaw) (defBody sLaw) (defScope sLaw) .none kV35 dc35 pm35 an35 cd35 ct35), sl35⟩) (c35 : PySem.W.codeIn K cd35 "law" = true) (k35 : PySem.W.keepIn K (.ref f35) = true)
    (n0 : PySem.W.nsIn K mainGlobals "MOST_SIGN" = some (some (.int 99 tc0)))
    (n1 : PySem.W.nsIn K mainGlobals "MOST_DEEP" = some (some (.int 12 tc1)))
    (n2 : PySem.W.nsIn K mainGlobals "MOST_WORDS" = some (some (.int 60 tc2)))
    (md : PySem.W.nsIn K mainGlobals "MANY_INNER" = some (some (.ref dd))) (ld : K.lookup dd = some ⟨.type "dict", none, .dict #[⟨g1, .str "not" t1, .int 1 u1⟩, ⟨g2, .str "and" t2, .int 2 u2⟩, ⟨g3, .str "or" t3, .int 2 u3⟩, ⟨g4, .str "then" t4, .int 2 u4⟩] m, #[]⟩)
    (e1 : g1 = PyData.keyHash w.params "not") (e2 : g2 = PyData.keyHash w.params "and") (e3 : g3 = PyData.keyHash w.params "or") (e4 : g4 = PyData.keyHash w.params "then") (low : (dd == sysModules) = false)
    (mCLineError : PySem.W.nsIn K mainGlobals "LineError" = some (some (.ref CLineError)))
    (mCBadClaim : PySem.W.nsIn K mainGlobals "BadClaim" = some (some (.ref CBadClaim)))
    (EXCBadClaim : ErrK K CBadClaim)
    (z0 : PySem.W.nsIn K mainGlobals "isinstance" = some none) (z1 : PySem.W.nsIn K mainGlobals "int" = some none) (z2 : PySem.W.nsIn K mainGlobals "bool" = some none) (z3 : PySem.W.nsIn K mainGlobals "tuple" = some none) (z4 : PySem.W.nsIn K mainGlobals "str" = some none) (z5 : PySem.W.nsIn K mainGlobals "list" = some none) (z6 : PySem.W.nsIn K mainGlobals "len" = some none) (z7 : PySem.W.nsIn K mainGlobals "all" = some none) (z8 : PySem.W.nsIn K mainGlobals "range" = some none) (z9 : PySem.W.nsIn K mainGlobals "sum" = some none) :
    ∃ fd : FuncData, (∀ (s : Shared) (v : Value), BindsTo s fd ⟨[v], []⟩ [("_law_script", v)]) ∧ ∀ base : Heap, K.In base → base.Ns mainGlobals mg → FnOk l.prog w K mg base CX0 20 fa fd ["_law_script"] (spLaw K) := by
  have e := hfa.symm.trans (PySem.W.mg_of X G a35)
  cases e
  have D_is_number : Df K mg "is_number" sIsNum ["thing"] _ _ := ⟨fun_mk (st := sIsNum) l0 c0 k0, (fun_mk (st := sIsNum) l0 c0 k0).binds (ps := ["thing"]) (fun _ _ _ _ _ _ us hl => match us, hl with | [_], _ => rfl), PySem.W.mg_of X G a0⟩
  have D_is_formula : Df K mg "is_formula" sIsFormula ["thing"] _ _ := ⟨fun_mk (st := sIsFormula) l1 c1 k1, (fun_mk (st := sIsFormula) l1 c1 k1).binds (ps := ["thing"]) (fun _ _ _ _ _ _ us hl => match us, hl with | [_], _ => rfl), PySem.W.mg_of X G a1⟩
  have D__is_formula_of : Df K mg "_is_formula_of" sIsF ["thing", "deep"] _ _ := ⟨fun_mk (st := sIsF) l2 c2 k2, (fun_mk (st := sIsF) l2 c2 k2).binds (ps := ["thing", "deep"]) (fun _ _ _ _ _ _ us hl => match us, hl with | [_, _], _ => rfl), PySem.W.mg_of X G a2⟩
  have D__is_sign : Df K mg "_is_sign" sIsSign ["thing"] _ _ := ⟨fun_mk (st := sIsSign) l3 c3 k3, (fun_mk (st := sIsSign) l3 c3 k3).binds (ps := ["thing"]) (fun _ _ _ _ _ _ us hl => match us, hl with | [_], _ => rfl), PySem.W.mg_of X G a3⟩
  have D_inner_formulas : Df K mg "inner_formulas" sInner ["f"] _ _ := ⟨fun_mk (st := sInner) l4 c4 k4, (fun_mk (st := sInner) l4 c4 k4).binds (ps := ["f"]) (fun _ _ _ _ _ _ us hl => match us, hl with | [_], _ => rfl), PySem.W.mg_of X G a4⟩
  have D_words : Df K mg "words" sWords ["f"] _ _ := ⟨fun_mk (st := sWords) l5 c5 k5, (fun_mk (st := sWords) l5 c5 k5).binds (ps := ["f"]) (fun _ _ _ _ _ _ us hl => match us, hl with | [_], _ => rfl), PySem.W.mg_of X G a5⟩
  have D_is_claim : Df K mg "is_claim" sIsClaim ["thing"] _ _ := ⟨fun_mk (st := sIsClaim) l6 c6 k6, (fun_mk (st := sIsClaim) l6 c6 k6).binds (ps := ["thing"]) (fun _ _ _ _ _ _ us hl => match us, hl with | [_], _ => rfl), PySem.W.mg_of X G a6⟩
  have D_refuse_no_claim : Df K mg "refuse_no_claim" sNoClaim ["thing"] _ _ := ⟨fun_mk (st := sNoClaim) l7 c7 k7, (fun_mk (st := sNoClaim) l7 c7 k7).binds (ps := ["thing"]) (fun _ _ _ _ _ _ us hl => match us, hl with | [_], _ => rfl), PySem.W.mg_of X G a7⟩
  have D_stands_in : Df K mg "stands_in" sStandsIn ["one", "other"] _ _ := ⟨fun_mk (st := sStandsIn) l8 c8 k8, (fun_mk (st := sStandsIn) l8 c8 k8).binds (ps := ["one", "other"]) (fun _ _ _ _ _ _ us hl => match us, hl with | [_, _], _ => rfl), PySem.W.mg_of X G a8⟩
  have D__all_stand_in : Df K mg "_all_stand_in" sAllIn ["some", "side"] _ _ := ⟨fun_mk (st := sAllIn) l9 c9 k9, (fun_mk (st := sAllIn) l9 c9 k9).binds (ps := ["some", "side"]) (fun _ _ _ _ _ _ us hl => match us, hl with | [_, _], _ => rfl), PySem.W.mg_of X G a9⟩
  have D_told_once : Df K mg "told_once" sToldOnce ["claim"] _ _ := ⟨fun_mk (st := sToldOnce) l10 c10 k10, (fun_mk (st := sToldOnce) l10 c10 k10).binds (ps := ["claim"]) (fun _ _ _ _ _ _ us hl => match us, hl with | [_], _ => rfl), PySem.W.mg_of X G a10⟩
  have D_each_once : Df K mg "each_once" sEachOnce ["side"] _ _ := ⟨fun_mk (st := sEachOnce) l11 c11 k11, (fun_mk (st := sEachOnce) l11 c11 k11).binds (ps := ["side"]) (fun _ _ _ _ _ _ us hl => match us, hl with | [_], _ => rfl), PySem.W.mg_of X G a11⟩
  have D_wanted : Df K mg "wanted" sWanted ["claim", "rule"] _ _ := ⟨fun_mk (st := sWanted) l12 c12 k12, (fun_mk (st := sWanted) l12 c12 k12).binds (ps := ["claim", "rule"]) (fun _ _ _ _ _ _ us hl => match us, hl with | [_, _], _ => rfl), PySem.W.mg_of X G a12⟩
  have D__fits : Df K mg "_fits" sFits ["claim", "rule"] _ _ := ⟨fun_mk (st := sFits) l13 c13 k13, (fun_mk (st := sFits) l13 c13 k13).binds (ps := ["claim", "rule"]) (fun _ _ _ _ _ _ us hl => match us, hl with | [_, _], _ => rfl), PySem.W.mg_of X G a13⟩
  have D_led_to : Df K mg "led_to" sLedTo ["claim", "rule"] _ _ := ⟨fun_mk (st := sLedTo) l14 c14 k14, (fun_mk (st := sLedTo) l14 c14 k14).binds (ps := ["claim", "rule"]) (fun _ _ _ _ _ _ us hl => match us, hl with | [_, _], _ => rfl), PySem.W.mg_of X G a14⟩
  have D_put_in : Df K mg "put_in" sPutIn ["rule"] _ _ := ⟨fun_mk (st := sPutIn) l15 c15 k15, (fun_mk (st := sPutIn) l15 c15 k15).binds (ps := ["rule"]) (fun _ _ _ _ _ _ us hl => match us, hl with | [_], _ => rfl), PySem.W.mg_of X G a15⟩
  have D__put_in_by_left : Df K mg "_put_in_by_left" sPutL ["f"] _ _ := ⟨fun_mk (st := sPutL) l16 c16 k16, (fun_mk (st := sPutL) l16 c16 k16).binds (ps := ["f"]) (fun _ _ _ _ _ _ us hl => match us, hl with | [_], _ => rfl), PySem.W.mg_of X G a16⟩
  have D__put_in_by_right : Df K mg "_put_in_by_right" sPutR ["f"] _ _ := ⟨fun_mk (st := sPutR) l17 c17 k17, (fun_mk (st := sPutR) l17 c17 k17).binds (ps := ["f"]) (fun _ _ _ _ _ _ us hl => match us, hl with | [_], _ => rfl), PySem.W.mg_of X G a17⟩
  have D__law_cell_at : Df K mg "_law_cell_at" sCell ["_law_script", "_law_k"] _ _ := ⟨fun_mk (st := sCell) l18 c18 k18, (fun_mk (st := sCell) l18 c18 k18).binds (ps := ["_law_script", "_law_k"]) (fun _ _ _ _ _ _ us hl => match us, hl with | [_, _], _ => rfl), PySem.W.mg_of X G a18⟩
  have D__law_first : Df K mg "_law_first" sFirst ["_law_script"] _ _ := ⟨fun_mk (st := sFirst) l19 c19 k19, (fun_mk (st := sFirst) l19 c19 k19).binds (ps := ["_law_script"]) (fun _ _ _ _ _ _ us hl => match us, hl with | [_], _ => rfl), PySem.W.mg_of X G a19⟩
  have D__law_count : Df K mg "_law_count" sCount ["_law_base"] _ _ := ⟨fun_mk (st := sCount) l20 c20 k20, (fun_mk (st := sCount) l20 c20 k20).binds (ps := ["_law_base"]) (fun _ _ _ _ _ _ us hl => match us, hl with | [_], _ => rfl), PySem.W.mg_of X G a20⟩
  have D__law_sign : Df K mg "_law_sign" sSign ["_law_k", "_law_base"] _ _ := ⟨fun_mk (st := sSign) l21 c21 k21, (fun_mk (st := sSign) l21 c21 k21).binds (ps := ["_law_k", "_law_base"]) (fun _ _ _ _ _ _ us hl => match us, hl with | [_, _], _ => rfl), PySem.W.mg_of X G a21⟩
  have D__law_formula : Df K mg "_law_formula" sFormula ["_law_cell", "_law_deep", "_law_base"] _ _ := ⟨fun_mk (st := sFormula) l22 c22 k22, (fun_mk (st := sFormula) l22 c22 k22).binds (ps := ["_law_cell", "_law_deep", "_law_base"]) (fun _ _ _ _ _ _ us hl => match us, hl with | [_, _, _], _ => rfl), PySem.W.mg_of X G a22⟩
  have D__law_with : Df K mg "_law_with" sWith ["_law_row", "_law_more"] _ _ := ⟨fun_mk (st := sWith) l23 c23 k23, (fun_mk (st := sWith) l23 c23 k23).binds (ps := ["_law_row", "_law_more"]) (fun _ _ _ _ _ _ us hl => match us, hl with | [_, _], _ => rfl), PySem.W.mg_of X G a23⟩
  have D__law_without : Df K mg "_law_without" sWithout ["_law_row", "_law_f"] _ _ := ⟨fun_mk (st := sWithout) l24 c24 k24, (fun_mk (st := sWithout) l24 c24 k24).binds (ps := ["_law_row", "_law_f"]) (fun _ _ _ _ _ _ us hl => match us, hl with | [_, _], _ => rfl), PySem.W.mg_of X G a24⟩
  have D__law_within : Df K mg "_law_within" sWithin ["_law_one", "_law_other"] _ _ := ⟨fun_mk (st := sWithin) l25 c25 k25, (fun_mk (st := sWithin) l25 c25 k25).binds (ps := ["_law_one", "_law_other"]) (fun _ _ _ _ _ _ us hl => match us, hl with | [_, _], _ => rfl), PySem.W.mg_of X G a25⟩
  have D__law_split : Df K mg "_law_split" sSplit ["_law_f", "_law_side_here"] _ _ := ⟨fun_mk (st := sSplit) l26 c26 k26, (fun_mk (st := sSplit) l26 c26 k26).binds (ps := ["_law_f", "_law_side_here"]) (fun _ _ _ _ _ _ us hl => match us, hl with | [_, _], _ => rfl), PySem.W.mg_of X G a26⟩
  have D__law_wanted : Df K mg "_law_wanted" sLWanted ["_law_claim_here", "_law_rule_here"] _ _ := ⟨fun_mk (st := sLWanted) l27 c27 k27, (fun_mk (st := sLWanted) l27 c27 k27).binds (ps := ["_law_claim_here", "_law_rule_here"]) (fun _ _ _ _ _ _ us hl => match us, hl with | [_, _], _ => rfl), PySem.W.mg_of X G a27⟩
  have D__law_words : Df K mg "_law_words" sLWords ["_law_f"] _ _ := ⟨fun_mk (st := sLWords) l28 c28 k28, (fun_mk (st := sLWords) l28 c28 k28).binds (ps := ["_law_f"]) (fun _ _ _ _ _ _ us hl => match us, hl with | [_], _ => rfl), PySem.W.mg_of X G a28⟩
  have D__law_side : Df K mg "_law_side" sSide ["_law_script", "_law_at", "_law_base"] _ _ := ⟨fun_mk (st := sSide) l29 c29 k29, (fun_mk (st := sSide) l29 c29 k29).binds (ps := ["_law_script", "_law_at", "_law_base"]) (fun _ _ _ _ _ _ us hl => match us, hl with | [_, _, _], _ => rfl), PySem.W.mg_of X G a29⟩
  have D__law_claim : Df K mg "_law_claim" sLClaim ["_law_script", "_law_base"] _ _ := ⟨fun_mk (st := sLClaim) l30 c30 k30, (fun_mk (st := sLClaim) l30 c30 k30).binds (ps := ["_law_script", "_law_base"]) (fun _ _ _ _ _ _ us hl => match us, hl with | [_, _], _ => rfl), PySem.W.mg_of X G a30⟩
  have D__law_rule : Df K mg "_law_rule" sLRule ["_law_script", "_law_claim_here", "_law_base"] _ _ := ⟨fun_mk (st := sLRule) l31 c31 k31, (fun_mk (st := sLRule) l31 c31 k31).binds (ps := ["_law_script", "_law_claim_here", "_law_base"]) (fun _ _ _ _ _ _ us hl => match us, hl with | [_, _, _], _ => rfl), PySem.W.mg_of X G a31⟩
  have D__law_known : Df K mg "_law_known" sKnown ["_law_rule_here"] _ _ := ⟨fun_mk (st := sKnown) l32 c32 k32, (fun_mk (st := sKnown) l32 c32 k32).binds (ps := ["_law_rule_here"]) (fun _ _ _ _ _ _ us hl => match us, hl with | [_], _ => rfl), PySem.W.mg_of X G a32⟩
  have D__law_claim_is : Df K mg "_law_claim_is" sLClaimIs ["_law_found", "_law_due"] _ _ := ⟨fun_mk (st := sLClaimIs) l33 c33 k33, (fun_mk (st := sLClaimIs) l33 c33 k33).binds (ps := ["_law_found", "_law_due"]) (fun _ _ _ _ _ _ us hl => match us, hl with | [_, _], _ => rfl), PySem.W.mg_of X G a33⟩
  have D__law_good : Df K mg "_law_good" sGood ["_law_found", "_law_due"] _ _ := ⟨fun_mk (st := sGood) l34 c34 k34, (fun_mk (st := sGood) l34 c34 k34).binds (ps := ["_law_found", "_law_due"]) (fun _ _ _ _ _ _ us hl => match us, hl with | [_, _], _ => rfl), PySem.W.mg_of X G a34⟩
  have D_law : Df K mg "law" sLaw ["_law_script"] _ _ := ⟨fun_mk (st := sLaw) l35 c35 k35, (fun_mk (st := sLaw) l35 c35 k35).binds (ps := ["_law_script"]) (fun _ _ _ _ _ _ us hl => match us, hl with | [_], _ => rfl), PySem.W.mg_of X G a35⟩
  have M : ManyD K w dd _ m := many_mk ld e1 e2 e3 e4 low
  have mM := PySem.W.mg_of X G md
  have b_isinstance := PySem.W.mg_none_of X G z0
  have b_int := PySem.W.mg_none_of X G z1
  have b_bool := PySem.W.mg_none_of X G z2
  have b_tuple := PySem.W.mg_none_of X G z3
  have b_str := PySem.W.mg_none_of X G z4
  have b_list := PySem.W.mg_none_of X G z5
  have b_len := PySem.W.mg_none_of X G z6
  have b_all := PySem.W.mg_none_of X G z7
  have b_range := PySem.W.mg_none_of X G z8
  have b_sum := PySem.W.mg_none_of X G z9
  have B : Blt mg := ⟨b_isinstance, b_int, b_bool, b_tuple, b_str, b_list, b_len, b_all⟩
  have m_MOST_SIGN := PySem.W.mg_of X G n0
  have m_MOST_DEEP := PySem.W.mg_of X G n1
  have m_MOST_WORDS := PySem.W.mg_of X G n2
  have qLineError := PySem.W.mg_of X G mCLineError
  have qBadClaim := PySem.W.mg_of X G mCBadClaim
  refine ⟨PySem.W.fnOf "law" "law" (defArgs sLaw) (defBody sLaw) (defScope sLaw) .none kV35 dc35 pm35 an35 cd35 ct35, fun s v => .of_eq rfl, fun base _ _ => ?_⟩
  have h_is_number := D_is_number.has (P := l.prog) (w := w) (base := base) (ok_isNum D_is_number B)
  have h_is_sign := D__is_sign.has (ok_isSign D__is_sign h_is_number m_MOST_SIGN)
  have h_isF := all_isF D__is_formula_of B h_is_sign M mM 13
  have h_is_formula := D_is_formula.has (ok_isFormula D_is_formula h_isF m_MOST_DEEP)
  have h_inner := D_inner_formulas.has (P := l.prog) (w := w) (base := base) (ok_inner D_inner_formulas)
  have h_words := all_words D_words b_sum h_inner 13
  have h_is_claim := D_is_claim.has (ok_isClaim D_is_claim B m_MOST_WORDS h_is_formula h_words)
  have h_refuse_no_claim := D_refuse_no_claim.hasN (ok_noClaim D_refuse_no_claim h_is_claim EXCBadClaim qBadClaim)
  have h_each_once := D_each_once.has (P := l.prog) (w := w) (base := base) (ok_eachOnce D_each_once)
  have h_told_once := D_told_once.has (ok_toldOnce D_told_once h_each_once)
  have h_all_in := D__all_stand_in.has (P := l.prog) (w := w) (base := base) (ok_allIn D__all_stand_in B)
  have h_stands_in := D_stands_in.has (ok_standsIn D_stands_in h_all_in)
  have h_putL := D__put_in_by_left.has (P := l.prog) (w := w) (K := K) (base := base) (ok_putL D__put_in_by_left)
  have h_putR := D__put_in_by_right.has (P := l.prog) (w := w) (K := K) (base := base) (ok_putR D__put_in_by_right)
  have h_put_in := D_put_in.has (ok_putIn D_put_in h_putL h_putR)
  have h_led_to := D_led_to.has (ok_ledTo D_led_to h_each_once h_put_in)
  have h_fits := D__fits.has (ok_fits D__fits B h_is_claim h_is_formula h_stands_in)
  have h_wantedN := D_wanted.hasN (ok_wanted D_wanted h_refuse_no_claim h_fits h_told_once h_led_to)
  have h_wanted := calm_wanted h_wantedN
  have h_cell := D__law_cell_at.has (P := l.prog) (w := w) (base := base) (ok_cell D__law_cell_at B)
  have h_first := D__law_first.has (ok_first D__law_first h_cell)
  have h_count := D__law_count.has (P := l.prog) (w := w) (K := K) (base := base) (ok_count D__law_count)
  have h_sign := D__law_sign.has (ok_sign D__law_sign h_count)
  have h_formula := all_formula D__law_formula h_sign 3
  have h_with := D__law_with.has (P := l.prog) (w := w) (K := K) (base := base) (ok_with D__law_with)
  have h_without := D__law_without.has (P := l.prog) (w := w) (K := K) (base := base) (ok_without D__law_without)
  have h_within := D__law_within.has (P := l.prog) (w := w) (K := K) (base := base) (ok_within D__law_within B)
  have h_split := D__law_split.has (P := l.prog) (w := w) (K := K) (base := base) (ok_split D__law_split)
  have h_lwanted := D__law_wanted.has (ok_lwanted D__law_wanted B h_with h_without h_within h_split)
  have h_lwords := all_lwords (P := l.prog) (w := w) (base := base) D__law_words B b_sum 13
  have h_side := D__law_side.has (ok_side D__law_side B b_range h_cell h_formula)
  have h_claim := D__law_claim.has (ok_lclaim D__law_claim b_range h_first h_cell h_side)
  have h_rule := D__law_rule.has (ok_rule D__law_rule B h_cell h_formula)
  have h_known := D__law_known.has (ok_known D__law_known B b_sum h_lwords)
  have h_claimIs := D__law_claim_is.has (ok_lclaimIs D__law_claim_is B h_with h_within)
  have h_good := D__law_good.has (ok_good D__law_good B b_range h_claimIs)
  exact ok_law D_law B h_first h_claim h_rule h_known h_lwanted h_good h_wanted
theorem walk {l : PySem.W.OpenLaw} {q : Program} {loose : List Str} {XP : (Str → Option Value) → Heap → Prop} {YP : World → Heap → Prop} {d : DefRec} {K : Params → PySem.W.Frag} (hn : l.most = some 63) (hdf : d.params.defaults = [])
    (hY : ∀ (w : World) (h : Heap), YP w h → (K w.params).In h)
    (F : ∀ (w : World) (mg : Str → Option Value) (fa : Addr) (h : Heap), (K w.params).In h → h.Ns mainGlobals mg → mg d.name = some (.ref fa) →
      ∃ fd : FuncData, (∀ (s : Shared) (u : Value), BindsTo s fd ⟨[u], []⟩ [("_law_script", u)]) ∧ ∀ base : Heap, (K w.params).In base → base.Ns mainGlobals mg → FnOk l.prog w (K w.params) mg base CX0 20 fa fd ["_law_script"] (spLaw (K w.params))) :
    PySem.W.WalkO q loose XP YP l.row.toRowW d [] (fun f vs => PySem.call f vs) :=
  L2.walk_of (n := 63) (k := 20) (x := "_law_script") (CX := fun _ => CX0) (sp := fun w => spLaw (K w.params)) hn (by decide) hdf ⟨rfl, by decide, by decide⟩ hY F (fun _ _ a ns hl _ hS => ⟨a, ns, rfl, hS, hl, fun _ => rfl⟩) fun _ _ _ _ _ z => z
end Lm
set_option Elab.async false
set_option linter.all false
set_option maxRecDepth 100000
namespace Lm
end Lm
open PySem PySem.W PyProof.Rows
set_option maxRecDepth 100000 in
set_option maxHeartbeats 0 in
theorem PySem.Challenge.cw_lemmaless_k04_what_rules_want_holds : PySem.Challenge.rw_lemmaless_k04_what_rules_want.Holds := by
  w_on; o_law; k_head; (case hw => w_witness2)
  k_fill
  refine Lm.walk (l := PySem.Challenge.rw_lemmaless_k04_what_rules_want) rfl rfl (fun w h Y => PySem.W.kIn_of Y) ?F
  case F =>
    intro w mg fa h KX G hmg
    refine' Lm.all_mk KX G hmg ?a0 ?l0 ?c0 ?k0 ?a1 ?l1 ?c1 ?k1 ?a2 ?l2 ?c2 ?k2 ?a3 ?l3 ?c3 ?k3 ?a4 ?l4 ?c4 ?k4 ?a5 ?l5 ?c5 ?k5 ?a6 ?l6 ?c6 ?k6 ?a7 ?l7 ?c7 ?k7 ?a8 ?l8 ?c8 ?k8 ?a9 ?l9 ?c9 ?k9 ?a10 ?l10 ?c10 ?k10 ?a11 ?l11 ?c11 ?k11 ?a12 ?l12 ?c12 ?k12 ?a13 ?l13 ?c13 ?k13 ?a14 ?l14 ?c14 ?k14 ?a15 ?l15 ?c15 ?k15 ?a16 ?l16 ?c16 ?k16 ?a17 ?l17 ?c17 ?k17 ?a18 ?l18 ?c18 ?k18 ?a19 ?l19 ?c19 ?k19 ?a20 ?l20 ?c20 ?k20 ?a21 ?l21 ?c21 ?k21 ?a22 ?l22 ?c22 ?k22 ?a23 ?l23 ?c23 ?k23 ?a24 ?l24 ?c24 ?k24 ?a25 ?l25 ?c25 ?k25 ?a26 ?l26 ?c26 ?k26 ?a27 ?l27 ?c27 ?k27 ?a28 ?l28 ?c28 ?k28 ?a29 ?l29 ?c29 ?k29 ?a30 ?l30 ?c30 ?k30 ?a31 ?l31 ?c31 ?k31 ?a32 ?l32 ?c32 ?k32 ?a33 ?l33 ?c33 ?k33 ?a34 ?l34 ?c34 ?k34 ?a35 ?l35 ?c35 ?k35 ?n0 ?n1 ?n2 ?md ?ld ?e1 ?e2 ?e3 ?e4 ?low ?mCLineError ?mCBadClaim ⟨⟨?x0_1, ?x0_2, ?x0_3, ?x0_4, ?x0_5, ?x0_6, ?x0_7, ?x0_8⟩, ?x0_9, ?x0_10, ?x0_11⟩ ?z0 ?z1 ?z2 ?z3 ?z4 ?z5 ?z6 ?z7 ?z8 ?z9
    (case a0 => k_is); (case l0 => k_is); (case c0 => k_is); (case k0 => k_is)
    (case a1 => k_is); (case l1 => k_is); (case c1 => k_is); (case k1 => k_is)
    (case a2 => k_is); (case l2 => k_is); (case c2 => k_is); (case k2 => k_is)
    (case a3 => k_is); (case l3 => k_is); (case c3 => k_is); (case k3 => k_is)
    (case a4 => k_is); (case l4 => k_is); (case c4 => k_is); (case k4 => k_is)
    (case a5 => k_is); (case l5 => k_is); (case c5 => k_is); (case k5 => k_is)
    (case a6 => k_is); (case l6 => k_is); (case c6 => k_is); (case k6 => k_is)
    (case a7 => k_is); (case l7 => k_is); (case c7 => k_is); (case k7 => k_is)
    (case a8 => k_is); (case l8 => k_is); (case c8 => k_is); (case k8 => k_is)
    (case a9 => k_is); (case l9 => k_is); (case c9 => k_is); (case k9 => k_is)
    (case a10 => k_is); (case l10 => k_is); (case c10 => k_is); (case k10 => k_is)
    (case a11 => k_is); (case l11 => k_is); (case c11 => k_is); (case k11 => k_is)
    (case a12 => k_is); (case l12 => k_is); (case c12 => k_is); (case k12 => k_is)
    (case a13 => k_is); (case l13 => k_is); (case c13 => k_is); (case k13 => k_is)
    (case a14 => k_is); (case l14 => k_is); (case c14 => k_is); (case k14 => k_is)
    (case a15 => k_is); (case l15 => k_is); (case c15 => k_is); (case k15 => k_is)
    (case a16 => k_is); (case l16 => k_is); (case c16 => k_is); (case k16 => k_is)
    (case a17 => k_is); (case l17 => k_is); (case c17 => k_is); (case k17 => k_is)
    (case a18 => k_is); (case l18 => k_is); (case c18 => k_is); (case k18 => k_is)
    (case a19 => k_is); (case l19 => k_is); (case c19 => k_is); (case k19 => k_is)
    (case a20 => k_is); (case l20 => k_is); (case c20 => k_is); (case k20 => k_is)
    (case a21 => k_is); (case l21 => k_is); (case c21 => k_is); (case k21 => k_is)
    (case a22 => k_is); (case l22 => k_is); (case c22 => k_is); (case k22 => k_is)
    (case a23 => k_is); (case l23 => k_is); (case c23 => k_is); (case k23 => k_is)
    (case a24 => k_is); (case l24 => k_is); (case c24 => k_is); (case k24 => k_is)
    (case a25 => k_is); (case l25 => k_is); (case c25 => k_is); (case k25 => k_is)
    (case a26 => k_is); (case l26 => k_is); (case c26 => k_is); (case k26 => k_is)
    (case a27 => k_is); (case l27 => k_is); (case c27 => k_is); (case k27 => k_is)
    (case a28 => k_is); (case l28 => k_is); (case c28 => k_is); (case k28 => k_is)
    (case a29 => k_is); (case l29 => k_is); (case c29 => k_is); (case k29 => k_is)
    (case a30 => k_is); (case l30 => k_is); (case c30 => k_is); (case k30 => k_is)
    (case a31 => k_is); (case l31 => k_is); (case c31 => k_is); (case k31 => k_is)
    (case a32 => k_is); (case l32 => k_is); (case c32 => k_is); (case k32 => k_is)
    (case a33 => k_is); (case l33 => k_is); (case c33 => k_is); (case k33 => k_is)
    (case a34 => k_is); (case l34 => k_is); (case c34 => k_is); (case k34 => k_is)
    (case a35 => k_is); (case l35 => k_is); (case c35 => k_is); (case k35 => k_is)
    (case n0 => k_is)
    (case n1 => k_is)
    (case n2 => k_is)
    (case md => k_is); (case ld => k_is); (case e1 => rfl); (case e2 => rfl); (case e3 => rfl); (case e4 => rfl); (case low => rfl)
    (case mCLineError => k_is)
    (case mCBadClaim => k_is)
    (case x0_1 => first | k_is | k_exc)
    (case x0_2 => first | k_is | k_exc)
    (case x0_3 => first | k_is | k_exc)
    (case x0_4 => first | k_is | k_exc)
    (case x0_5 => first | k_is | k_exc)
    (case x0_6 => first | k_is | k_exc)
    (case x0_7 => first | k_is | k_exc)
    (case x0_8 => first | k_is | k_exc)
    (case x0_9 => first | k_is | k_exc)
    (case x0_10 => first | k_is | k_exc)
    (case x0_11 => first | k_is | k_exc)
    (case z0 => k_is)
    (case z1 => k_is)
    (case z2 => k_is)
    (case z3 => k_is)
    (case z4 => k_is)
    (case z5 => k_is)
    (case z6 => k_is)
    (case z7 => k_is)
    (case z8 => k_is)
    (case z9 => k_is)
#print axioms PySem.Challenge.cw_lemmaless_k04_what_rules_want_holds
