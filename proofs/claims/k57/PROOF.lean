import PyProof.Rows.All
import Wide.All
import OpenK.AllK
import Wide.FinOn
import HandS.DeepEq
import HandS.DictComp
import HandS.Evl
import HandS.Exc
import HandS.ExcField
import HandS.ExcInit
import HandS.ExcIs
import HandS.ExcOwn
import HandS.ForExc
import HandS.ForMost
import HandS.Iter
import HandS.More
import HandS.Rev
import HandS.Style
import HandS.Walk
import HandS.WordsExc
import KE.KDictList
import KE.KExcIs
import KE.KTypeName
import PySem.Challenge.RW_manysides_k57_disks
set_option Elab.async false
set_option linter.all false
set_option maxRecDepth 100000
set_option maxHeartbeats 4000000
namespace K2
open PySem L2
def top (i : Nat) : Stmt := PySem.Challenge.pw_manysides_k57_disks.main.body.getD i (.Pass ⟨0, 0, 0, 0⟩)
abbrev sInit : Stmt := inClass (top 1) 0
abbrev sContentInit : Stmt := inClass (top 4) 0
abbrev sChoicesInit : Stmt := inClass (top 5) 0
abbrev sChoicesNextBelow : Stmt := inClass (top 5) 1
abbrev sDiskInit : Stmt := inClass (top 6) 0
abbrev sDiskNames : Stmt := inClass (top 6) 1
abbrev sDiskSize : Stmt := inClass (top 6) 2
abbrev sDiskRead : Stmt := inClass (top 6) 3
abbrev sDiskAppend : Stmt := inClass (top 6) 4
abbrev sDiskSync : Stmt := inClass (top 6) 5
abbrev sDiskRename : Stmt := inClass (top 6) 6
abbrev sDiskRemove : Stmt := inClass (top 6) 7
abbrev sDiskSyncNames : Stmt := inClass (top 6) 8
abbrev sDiskAllow : Stmt := inClass (top 6) 9
abbrev sDiskDone : Stmt := inClass (top 6) 10
abbrev sDiskLose : Stmt := inClass (top 6) 11
abbrev sDiskBeginDeed : Stmt := inClass (top 6) 12
abbrev sDiskChange : Stmt := inClass (top 6) 13
abbrev sDiskHold : Stmt := inClass (top 6) 14
abbrev sChangeNames : Stmt := top 7
abbrev sOctetsLeft : Stmt := top 8
abbrev sDraw : Stmt := top 10
abbrev sLMoved : Stmt := top 11
abbrev sLTurn : Stmt := top 12
abbrev sLDeed : Stmt := top 13
abbrev sLDone : Stmt := top 14
abbrev sLLost : Stmt := top 15
abbrev sLSame : Stmt := top 16
abbrev sLaw : Stmt := top 17
end K2

namespace K2
open PySem L2
/-! ### heaps -/
theorem same_new {H : Hp} {p : Addr} {o : HO} (h : H p = none) : Same H (upd H p o) := fun b x e => by
  rw [upd_ne (ne_of_none e h)]
  exact e
theorem same_put {H H1 : Hp} {p : Addr} {o : HO} (s : Same H H1) (h : H p = none) : Same H (upd H1 p o) := fun b x e => by
  rw [upd_ne (ne_of_none e h)]
  exact s b x e
theorem iteB {b : Bool} {A B : Prop} (e : b = true) (h : A) : if b = true then A else B := by
  rw [if_pos e]
  exact h
theorem iteBF {b : Bool} {A B : Prop} (e : b = false) (h : B) : if b = true then A else B := by
  subst e
  exact iteF h
theorem str_eq (a b : Str) : decide (V.str a = V.str b) = decide (a = b) := by
  by_cases e : a = b
  · subst e
    rw [decide_eq_true rfl, decide_eq_true rfl]
  · rw [decide_eq_false e, decide_eq_false fun h => e (V.str.inj h)]
/-- all that is outside of F stays -/
def Out (F : Addr → Prop) (H H1 : Hp) : Prop := ∀ c o, H c = some o → ¬ F c → H1 c = some o
theorem Out.refl {F : Addr → Prop} {H : Hp} : Out F H H := fun _ _ h _ => h
theorem Same.out {F : Addr → Prop} {H H1 : Hp} (s : Same H H1) : Out F H H1 := fun c o h _ => s c o h
/-- F1 has but what F has, and what was free -/
def Gw (F F1 : Addr → Prop) (H : Hp) : Prop := ∀ c, F1 c → F c ∨ H c = none
theorem Gw.refl {F : Addr → Prop} {H : Hp} : Gw F F H := fun _ h => .inl h
theorem Out.trans {F F1 : Addr → Prop} {H H1 H2 : Hp} (a : Out F H H1) (g : Gw F F1 H) (b : Out F1 H1 H2) : Out F H H2 := fun c o h n => by
  refine b c o (a c o h n) fun z => ?_
  rcases g c z with y | y
  · exact n y
  · rw [y] at h
    cases h
theorem Gw.trans {F F1 F2 : Addr → Prop} {H H1 : Hp} (g : Gw F F1 H) (a : Out F H H1) (k : Gw F1 F2 H1) : Gw F F2 H := fun c h => by
  rcases k c h with y | y
  · exact g c y
  · cases e : H c with
    | none => exact .inr rfl
    | some o =>
      refine .inl ?_
      apply Classical.byContradiction
      intro n
      rw [a c o e n] at y
      cases y
theorem Out.upd {F : Addr → Prop} {H H1 : Hp} {p : Addr} {o : HO} (a : Out F H H1) (h : F p ∨ H p = none) : Out F H (upd H1 p o) := fun c x e n => by
  rw [upd_ne]
  · exact a c x e n
  · intro z
    rcases h with h | h
    · exact n (z ▸ h)
    · rw [z, h] at e
      cases e
theorem Out.free {F : Addr → Prop} {H H1 : Hp} (a : Out F H H1) (hF : ∀ c, F c → H1 c ≠ none) {p : Addr} (h : H1 p = none) : H p = none := by
  cases e : H p with
  | none => rfl
  | some o =>
    have n : ¬ F p := fun z => hF p z h
    rw [a p o e n] at h
    cases h
/-! ### rows of tuples -/
def Rows (H : Hp) (xs : List V) (rs : List (List V)) : Prop := xs.length = rs.length ∧ ∀ (i : Nat) (r : List V), rs[i]? = some r → ∃ a, xs[i]? = some (V.ref a) ∧ H a = some (.tup r)
theorem Rows.keep {H H1 : Hp} {xs : List V} {rs : List (List V)} (h : Rows H xs rs) (e : ∀ a r, H a = some (.tup r) → H1 a = some (.tup r)) : Rows H1 xs rs := ⟨h.1, fun i r hr => let ⟨a, h1, h2⟩ := h.2 i r hr; ⟨a, h1, e _ _ h2⟩⟩
theorem Rows.nil {H : Hp} : Rows H [] [] := ⟨rfl, fun i r h => by simp at h⟩
theorem Rows.push {H : Hp} {xs : List V} {rs : List (List V)} {a : Addr} {r : List V} (h : Rows H xs rs) (e : H a = some (.tup r)) : Rows H (xs ++ [V.ref a]) (rs ++ [r]) := by
  refine ⟨by rw [List.length_append, List.length_append, h.1]; rfl, fun i q hq => ?_⟩
  rcases Nat.lt_trichotomy i rs.length with hi | hi | hi
  · rw [List.getElem?_append_left hi] at hq
    obtain ⟨b, h1, h2⟩ := h.2 i q hq
    exact ⟨b, by rw [List.getElem?_append_left (by rw [h.1]; exact hi)]; exact h1, h2⟩
  · subst hi
    rw [List.getElem?_append_right (Nat.le_refl _), Nat.sub_self] at hq
    have : r = q := Option.some.inj hq
    subst this
    exact ⟨a, by rw [List.getElem?_append_right (Nat.le_of_eq h.1), h.1, Nat.sub_self]; rfl, e⟩
  · rw [List.getElem?_eq_none (by rw [List.length_append, List.length_singleton]; omega)] at hq
    cases hq
theorem Rows.take {H : Hp} {xs : List V} {rs : List (List V)} (h : Rows H xs rs) (n : Nat) : Rows H (xs.take n) (rs.take n) := by
  refine ⟨by rw [List.length_take, List.length_take, h.1], fun i r hr => ?_⟩
  by_cases hi : i < n
  · rw [List.getElem?_take_of_lt hi] at hr ⊢
    exact h.2 i r hr
  · rw [List.getElem?_eq_none (by rw [List.length_take]; omega)] at hr
    cases hr
/-! ### tables: names and numbers, in order -/
abbrev Tb := List (Str × Nat)
def tput (t : Tb) (n : Str) (i : Nat) : Tb := if (t.any fun p => decide (p.1 = n)) = true then t.map (fun p => if p.1 = n then (p.1, i) else p) else t ++ [(n, i)]
def tget (t : Tb) (n : Str) : Option Nat := (t.find? fun p => decide (p.1 = n)).map (·.2)
def tdrop (t : Tb) (n : Str) : Tb := t.filter fun p => decide (p.1 ≠ n)
def mp (g : Nat → V) (t : Tb) : List (Key × V) := t.map fun p => ((Sum.inr p.1 : Key), g p.2)
theorem inr_eq {a b : Str} : ((Sum.inr a : Key) = Sum.inr b) ↔ a = b := ⟨fun h => Sum.inr.inj h, fun h => by rw [h]⟩
theorem dinr (a b : Str) : decide ((Sum.inr a : Key) = Sum.inr b) = decide (a = b) := decide_eq_decide.mpr inr_eq
theorem mp_get (g : Nat → V) (t : Tb) (n : Str) : valV (mp g t) (Sum.inr n) = (tget t n).map g := by
  unfold valV mp tget
  rw [List.find?_map]
  show Option.map _ (Option.map _ (t.find? fun p => decide ((Sum.inr p.1 : Key) = Sum.inr n))) = _
  rw [show (fun p : Str × Nat => decide ((Sum.inr p.1 : Key) = Sum.inr n)) = fun p => decide (p.1 = n) from funext fun p => dinr _ _]
  cases t.find? (fun p => decide (p.1 = n)) <;> rfl
theorem mp_put (g : Nat → V) (t : Tb) (n : Str) (i : Nat) : putK (mp g t) (Sum.inr n) (g i) = mp g (tput t n i) := by
  have e : ((mp g t).any fun kv => decide (kv.1 = (Sum.inr n : Key))) = t.any fun p => decide (p.1 = n) := by
    unfold mp
    rw [List.any_map]
    exact congrArg (fun f => t.any f) (funext fun p => dinr _ _)
  unfold putK tput
  rw [e]
  by_cases c : (t.any fun p => decide (p.1 = n)) = true
  · rw [if_pos c, if_pos c]
    unfold mp
    rw [List.map_map, List.map_map]
    refine List.map_congr_left fun p _ => ?_
    show (if (Sum.inr p.1 : Key) = Sum.inr n then _ else _) = _
    by_cases h : p.1 = n
    · rw [if_pos (inr_eq.mpr h)]
      show _ = ((Sum.inr (if p.1 = n then (p.1, i) else p).1 : Key), g (if p.1 = n then (p.1, i) else p).2)
      rw [if_pos h]
    · rw [if_neg fun z => h (inr_eq.mp z)]
      show _ = ((Sum.inr (if p.1 = n then (p.1, i) else p).1 : Key), g (if p.1 = n then (p.1, i) else p).2)
      rw [if_neg h]
  · rw [if_neg c, if_neg c]
    unfold mp
    rw [List.map_append]
    rfl
theorem mp_drop (g : Nat → V) (t : Tb) (n : Str) : dropK (mp g t) (Sum.inr n) = mp g (tdrop t n) := by
  unfold dropK mp tdrop
  rw [List.filter_map]
  congr 1
  refine List.filter_congr fun p _ => ?_
  exact decide_eq_decide.mpr (not_congr inr_eq)
theorem mp_len (g : Nat → V) (t : Tb) : (mp g t).length = t.length := List.length_map _
theorem tput_len (t : Tb) (n : Str) (i : Nat) : (tput t n i).length ≤ t.length + 1 := by
  unfold tput
  split
  · rw [List.length_map]; omega
  · rw [List.length_append]; exact Nat.le_refl _
inductive Cg where
  | make (n : Str) (i : Nat)
  | ren (a b : Str) (i : Nat)
  | rem (a : Str)
def mv (t : Tb) : Cg → Tb
  | .make n i => tput t n i
  | .ren a b i => tput (tdrop t a) b i
  | .rem a => tdrop t a
def okC (t : Tb) : Cg → Prop
  | .make _ _ => True
  | .ren a _ i => tget t a = some i
  | .rem a => ∃ i, tget t a = some i
def run (t : Tb) (cs : List Cg) : Tb := cs.foldl mv t
theorem run_snoc (t : Tb) (cs : List Cg) (c : Cg) : run t (cs ++ [c]) = mv (run t cs) c := by
  unfold run
  rw [List.foldl_append]
  rfl
end K2

namespace K2
open PySem L2
def NM : List Str := ["a", "b", "root", "root.new"]
theorem nodup_le : ∀ {l m : List Str}, l.Nodup → (∀ x ∈ l, x ∈ m) → l.length ≤ m.length
  | [], _, _, _ => Nat.zero_le _
  | a :: r, m, h, s => by
    rw [List.nodup_cons] at h
    have ha := s a (List.mem_cons_self ..)
    have := nodup_le (m := m.erase a) h.2 fun x hx => by
      refine (List.mem_erase_of_ne fun z => h.1 ?_).mpr (s x (List.mem_cons_of_mem _ hx))
      rw [← z]
      exact hx
    rw [List.length_erase_of_mem ha] at this
    have hp : 0 < m.length := List.length_pos_of_mem ha
    rw [List.length_cons]
    omega
structure TbOk (n : Nat) (t : Tb) : Prop where
  nd : (t.map (·.1)).Nodup
  nm : ∀ p ∈ t, p.1 ∈ NM
  ix : ∀ p ∈ t, p.2 < n
theorem TbOk.nil (n : Nat) : TbOk n [] := ⟨List.nodup_nil, fun p h => absurd h List.not_mem_nil, fun p h => absurd h List.not_mem_nil⟩
theorem TbOk.mono {n m : Nat} {t : Tb} (h : TbOk n t) (l : n ≤ m) : TbOk m t := ⟨h.nd, h.nm, fun p q => Nat.lt_of_lt_of_le (h.ix p q) l⟩
theorem TbOk.len {n : Nat} {t : Tb} (h : TbOk n t) : t.length ≤ 4 := by
  have := nodup_le (m := NM) h.nd fun x hx => by
    obtain ⟨p, hp, rfl⟩ := List.mem_map.mp hx
    exact h.nm p hp
  rwa [List.length_map] at this
theorem tput_keys (t : Tb) (a : Str) (i : Nat) : (tput t a i).map (·.1) = if a ∈ t.map (·.1) then t.map (·.1) else t.map (·.1) ++ [a] := by
  have e : (t.any fun p => decide (p.1 = a)) = decide (a ∈ t.map (·.1)) := by
    rw [Bool.eq_iff_iff, List.any_eq_true, decide_eq_true_eq, List.mem_map]
    exact ⟨fun ⟨p, h, g⟩ => ⟨p, h, of_decide_eq_true g⟩, fun ⟨p, h, g⟩ => ⟨p, h, decide_eq_true g⟩⟩
  unfold tput
  rw [e]
  by_cases c : a ∈ t.map (·.1)
  · rw [if_pos (decide_eq_true c), if_pos c, List.map_map]
    refine List.map_congr_left fun p _ => ?_
    show (if p.1 = a then (p.1, i) else p).1 = p.1
    split <;> rfl
  · rw [if_neg (by rw [decide_eq_false c]; decide), if_neg c, List.map_append]
    rfl
theorem TbOk.put {n : Nat} {t : Tb} {a : Str} {i : Nat} (h : TbOk n t) (ha : a ∈ NM) (hi : i < n) : TbOk n (tput t a i) := by
  refine ⟨?_, ?_, ?_⟩
  · rw [tput_keys]
    by_cases c : a ∈ t.map (·.1)
    · rw [if_pos c]; exact h.nd
    · rw [if_neg c, List.nodup_append]
      refine ⟨h.nd, by simp, fun x hx y hy z => ?_⟩
      rw [List.mem_singleton.mp hy] at z
      exact c (z ▸ hx)
  · intro p hp
    have : p.1 ∈ (tput t a i).map (·.1) := List.mem_map.mpr ⟨p, hp, rfl⟩
    rw [tput_keys] at this
    have old : p.1 ∈ t.map (·.1) → p.1 ∈ NM := fun z => by
      obtain ⟨q, hq, e⟩ := List.mem_map.mp z
      rw [← e]
      exact h.nm q hq
    by_cases c : a ∈ t.map (·.1)
    · rw [if_pos c] at this; exact old this
    · rw [if_neg c] at this
      rcases List.mem_append.mp this with z | z
      · exact old z
      · rw [List.mem_singleton.mp z]; exact ha
  · intro p hp
    unfold tput at hp
    split at hp
    · obtain ⟨q, hq, rfl⟩ := List.mem_map.mp hp
      split
      · exact hi
      · exact h.ix q hq
    · rcases List.mem_append.mp hp with z | z
      · exact h.ix p z
      · rw [List.mem_singleton.mp z]; exact hi
theorem TbOk.drop {n : Nat} {t : Tb} {a : Str} (h : TbOk n t) : TbOk n (tdrop t a) := by
  refine ⟨List.Nodup.sublist (List.Sublist.map _ List.filter_sublist) h.nd, fun p hp => h.nm p (List.mem_filter.mp hp).1, fun p hp => h.ix p (List.mem_filter.mp hp).1⟩
def CgOk (n : Nat) : Cg → Prop
  | .make a i => a ∈ NM ∧ i < n
  | .ren _ b i => b ∈ NM ∧ i < n
  | .rem _ => True
theorem CgOk.mono {n m : Nat} {c : Cg} (h : CgOk n c) (l : n ≤ m) : CgOk m c := by
  cases c with
  | make a i => exact ⟨h.1, Nat.lt_of_lt_of_le h.2 l⟩
  | ren a b i => exact ⟨h.1, Nat.lt_of_lt_of_le h.2 l⟩
  | rem a => trivial
theorem TbOk.mv {n : Nat} {t : Tb} {c : Cg} (h : TbOk n t) (g : CgOk n c) : TbOk n (K2.mv t c) := by
  cases c with
  | make a i => exact h.put g.1 g.2
  | ren a b i => exact h.drop.put g.1 g.2
  | rem a => exact h.drop
theorem TbOk.run {n : Nat} : ∀ {cs : List Cg} {t : Tb}, TbOk n t → (∀ c ∈ cs, CgOk n c) → TbOk n (K2.run t cs)
  | [], _, h, _ => h
  | c :: r, t, h, g => TbOk.run (cs := r) (h.mv (g c (List.mem_cons_self ..))) fun x hx => g x (List.mem_cons_of_mem _ hx)
theorem tget_mem {t : Tb} {a : Str} {i : Nat} (h : tget t a = some i) : (a, i) ∈ t := by
  unfold tget at h
  cases e : t.find? (fun p => decide (p.1 = a)) with
  | none => rw [e] at h; cases h
  | some p =>
    rw [e] at h
    have h1 := List.mem_of_find?_eq_some e
    have h2 : p.1 = a := of_decide_eq_true (List.find?_some (p := fun p : Str × Nat => decide (p.1 = a)) e)
    have h3 : p.2 = i := Option.some.inj h
    rw [← h2, ← h3]
    exact h1
theorem tget_none {t : Tb} {a : Str} (h : tget t a = none) : a ∉ t.map (·.1) := by
  intro m
  obtain ⟨p, hp, e⟩ := List.mem_map.mp m
  unfold tget at h
  rw [Option.map_eq_none_iff, List.find?_eq_none] at h
  exact h p hp (decide_eq_true e)
theorem tget_some {t : Tb} {a : Str} (h : a ∈ t.map (·.1)) : ∃ i, tget t a = some i := by
  cases e : tget t a with
  | some i => exact ⟨i, rfl⟩
  | none => exact absurd h (tget_none e)
theorem tget_in : ∀ {t : Tb} {p : Str × Nat}, (t.map (·.1)).Nodup → p ∈ t → tget t p.1 = some p.2
  | q :: r, p, h, m => by
    rw [List.map_cons, List.nodup_cons] at h
    unfold tget
    rcases List.mem_cons.mp m with e | m
    · subst e
      rw [List.find?_cons_of_pos (p := fun x : Str × Nat => decide (x.1 = p.1)) (decide_eq_true rfl)]
      rfl
    · have ne : ¬ decide (q.1 = p.1) = true := fun z => h.1 (by rw [of_decide_eq_true z]; exact List.mem_map.mpr ⟨p, m, rfl⟩)
      rw [List.find?_cons_of_neg (p := fun x : Str × Nat => decide (x.1 = p.1)) ne]
      exact tget_in h.2 m
/-! ### the names in order -/
def LNs : Nat → List (List Str)
  | 0 => [[]]
  | n + 1 => (LNs n).flatMap fun l => (NM.filter fun a => !decide (a ∈ l)).map fun a => a :: l
theorem lns_in : ∀ {l : List Str}, l.Nodup → (∀ x ∈ l, x ∈ NM) → l ∈ LNs l.length
  | [], _, _ => List.mem_singleton.mpr rfl
  | a :: r, h, s => by
    rw [List.nodup_cons] at h
    have ih := lns_in h.2 fun x hx => s x (List.mem_cons_of_mem _ hx)
    show a :: r ∈ (LNs r.length).flatMap _
    refine List.mem_flatMap.mpr ⟨r, ih, List.mem_map.mpr ⟨a, List.mem_filter.mpr ⟨s a (List.mem_cons_self ..), ?_⟩, rfl⟩⟩
    rw [decide_eq_false h.1]
    rfl
def srt (l : List Str) : List Str := NM.filter fun a => decide (a ∈ l)
theorem srt_tab : ∀ k, k < 5 → ∀ l ∈ LNs k, PyProof.Rows.sortedS l = true → l = srt l := by decide +kernel
theorem srt_eq {l ys : List Str} (hd : l.Nodup) (hm : ∀ x ∈ l, x ∈ NM) (p : ys.Perm l) (s : PyProof.Rows.sortedS ys = true) : ys = srt l := by
  have hy : ys.Nodup := p.nodup_iff.mpr hd
  have my : ∀ x ∈ ys, x ∈ NM := fun x hx => hm x (p.mem_iff.mp hx)
  have h1 := srt_tab ys.length (Nat.lt_succ_of_le (nodup_le hy my)) ys (lns_in hy my) s
  rw [h1]
  unfold srt
  refine List.filter_congr fun a _ => ?_
  exact decide_eq_decide.mpr ⟨fun z => p.mem_iff.mp z, fun z => p.mem_iff.mpr z⟩
theorem TbOk.srt {n : Nat} {t : Tb} (h : TbOk n t) {ys : List Str} (p : ys.Perm (t.map (·.1))) (s : PyProof.Rows.sortedS ys = true) : ys = K2.srt (t.map (·.1)) :=
  srt_eq h.nd (fun x hx => by
    obtain ⟨q, hq, rfl⟩ := List.mem_map.mp hx
    exact h.nm q hq) p s
theorem srt_mem {l : List Str} {x : Str} (h : x ∈ srt l) : x ∈ l ∧ x ∈ NM := by
  have := List.mem_filter.mp h
  exact ⟨of_decide_eq_true this.2, this.1⟩
theorem srt_nodup (l : List Str) : (srt l).Nodup := List.Nodup.sublist List.filter_sublist (by decide +kernel)
theorem srt_len (l : List Str) : (srt l).length ≤ 4 := List.length_filter_le _ _
theorem mp_keys (g : Nat → V) (t : Tb) : (mp g t).map (·.1) = (t.map (·.1)).map Sum.inr := by
  unfold mp
  rw [List.map_map, List.map_map]
  rfl
end K2

namespace K2R
open PySem PySem.Spec PySem.Calls PyProof.Rows PySem.W RT
section
variable {prog : Program} {w : World} {A : Around} {E : Value → Shared → Prop} {s : Shared}
/-- list.__init__ of a new list and a reversed list's iterator -/
theorem lr_init {N j ls : Addr} {its : Array Value} {R : Result → Shared → Prop} (hh : A.handled = none) (hj : s.heap.IsRevIter j ls ((its.size : Int) - 1)) (hls : s.heap.IsList ls its) (n1 : ls ≠ j) (n2 : N ≠ j) (n3 : N ≠ ls) (hn : its.size ≤ sizeLine)
    (h0 : s.heap.get? N = some { cls := .type "list", data := .seq #[] })
    (hR : ∀ h' tk acc' c', (∀ b o, b ≠ N → b ≠ j → s.heap.get? b = some o → h'.get? b = some o) → h'.get? N = some { cls := .type "list", dict := none, data := .seq acc' c', slots := #[] } → ItemsOf (fun i v => its[its.size - 1 - i]? = some v) acc' its.size → R (.ok (.ret .none)) { s with heap := h', toks := tk }) :
    wpAny (model prog w) A.in1 (Builtin.«list.__init__» ⟨[.ref N, .ref j], []⟩) (fun fin s' => match fin with
      | .done f => R (.ok f) s'
      | .again c' => c'.quiet = true ∧ codeAny (model prog w) A c' R s') (fun e s' => R (.error e) s') s := by
  show wpAny _ _ (do
    let old ← Builtin.List.listItems (.ref N)
    Builtin.List.listUpdate (.ref N) (fun _ => #[])
    letGo old.toList.reverse
    Builtin.List.listExtendWith (.ref N) (.ref j) .none) _ _ s
  refine wpAny_bind ?_
  unfold Builtin.List.listItems
  refine wpAny_bind (wpAny_seqItems h0 rfl (wpAny_pure ?_))
  show wpAny _ _ (updateSeq N (fun _ => #[]) >>= fun _ => letGo (#[] : Array Value).toList.reverse >>= fun _ => Builtin.List.listExtendWith (.ref N) (.ref j) .none) _ _ s
  refine wpAny_bind (wpAny_updateSeq h0 rfl ?_)
  have h2 := Heap.get?_update_self (Obj.mapSeq (fun _ => (#[] : Array Value))) h0 rfl
  have other : ∀ b o, b ≠ N → s.heap.get? b = some o → (s.heap.update N (Obj.mapSeq (fun _ => (#[] : Array Value)))).get? b = some o := fun b o hb e => (Heap.get?_update_other _ _ (Ne.symm hb)).trans e
  refine wpAny_bind (wpAny_letGo ?_)
  have W := (Walks.listRev (prog := prog) (w := w) (A := A.in1) hh j ls n1 its).toS
  have hf : N ∉ [j, ls] := by
    simp only [List.mem_cons, List.not_mem_nil, or_false, not_or]
    exact ⟨n2, n3⟩
  have hj1 : (s.heap.update N (Obj.mapSeq (fun _ => (#[] : Array Value)))).IsRevIter j ls ((its.size : Int) - 1) := hj.at fun o e => other j o (Ne.symm n2) e
  have hl1 : (s.heap.update N (Obj.mapSeq (fun _ => (#[] : Array Value)))).IsList ls its := by
    obtain ⟨ol, hol, hr⟩ := hls
    exact ⟨ol, other ls ol (Ne.symm n3) hol, hr⟩
  have hT : ({ s with heap := s.heap.update N (Obj.mapSeq (fun _ => (#[] : Array Value))) } : Shared).TypeIs (.ref j) "list_reverseiterator" :=
    Heap.IsRevIter.typeIs (s := { s with heap := s.heap.update N (Obj.mapSeq (fun _ => (#[] : Array Value))) }) hj1
  have hr : Builtin.List.listSameRef (.ref N) (.ref j) = false := by simp [Builtin.List.listSameRef, n2]
  unfold Builtin.List.listExtendWith
  refine wpAny_bind (wpAny_typeOf hT ?_)
  rw [if_neg (by rw [hr]; decide)]
  refine wpAny_bind (wpAny_pyIter_revIter (s := { s with heap := s.heap.update N (Obj.mapSeq (fun _ => (#[] : Array Value))) }) hj1 ?_)
  refine wpAny_bind (wpAny_holding ?_)
  unfold Builtin.List.listLengthHint
  refine wpAny_bind (wpAny_specialOf hT nolen_lri ?_)
  show wpAny _ A.in1 (specialOf (Value.ref j) (Str.ofString "__length_hint__") >>= _) _ _ _
  refine wpAny_bind (wpAny_specialOf hT hint_lri ?_)
  generalize hid : ("list_reverseiterator.__length_hint__" : String) = nm
  wp_delta
  rw [show splitId nm = some ("list_reverseiterator", "__length_hint__") from by subst hid; decide +kernel]
  subst hid
  refine wpAny_bind (wpAny_isInstance (b := true) hT (by rw [isSubtype_type]; kernel_rfl) ?_)
  refine wpAny_pure ?_
  rw [if_neg (by decide)]
  have e0 : ((its.size : Nat) : Int) - 1 - ((0 : Nat) : Int) = (its.size : Int) - 1 := by omega
  refine wpAny_pure ⟨plainId_quiet PySem.F.plain_extend_loop _, codeAny_extend_loopS W hn _ hf _ its.size 0 _ _ _ rfl (Nat.zero_le _) ⟨Nat.zero_le _, by rw [e0]; exact hj1, hl1⟩ h2 (ItemsOf.nil _) fun s' acc' c' hm hS' hacc => ?_⟩
  rw [Moved.eq_with hm]
  refine hR s'.heap s'.toks acc' c' (fun b o hb hbj e => hm.heap b o (fun hmem => ?_) (other b o hb e)) hS' hacc
  rcases List.mem_cons.mp hmem with e' | hmem
  · exact hb e'
  · exact hbj (List.mem_singleton.mp hmem)
theorem lr_call {j ls : Addr} {its : Array Value} {Q : Value → Shared → Prop} (hh : A.handled = none) (hj : s.heap.IsRevIter j ls ((its.size : Int) - 1)) (hls : s.heap.IsList ls its) (n1 : ls ≠ j) (hn : its.size ≤ sizeLine)
    (hQ : ∀ h' tk acc' c', (∀ b o, b ≠ j → s.heap.get? b = some o → h'.get? b = some o) → h'.get? s.heap.objs.size = some { cls := .type "list", dict := none, data := .seq acc' c', slots := #[] } → ItemsOf (fun i v => its[its.size - 1 - i]? = some v) acc' its.size →
      Q (.ref s.heap.objs.size) { s with heap := h', toks := tk }) :
    wpAny (model prog w) A (call (.type "list") [.ref j]) Q E s := by
  obtain ⟨oj, hoj, _⟩ := id hj
  obtain ⟨ol, hol, _⟩ := id hls
  refine callType_codes (Q₁ := fun obj s₁ => obj = .ref s.heap.objs.size ∧ s₁ = { s with heap := s.heap.push { cls := .type "list", data := .seq #[] } }) PySem.F.called_list (PySem.F.typeCall_list_1 _) PySem.F.entry_list_init
    (code_list_new _ ⟨rfl, rfl⟩) fun obj s₁ h₁ => ?_
  obtain ⟨rfl, rfl⟩ := h₁
  have hN : (s.heap.push { cls := .type "list", data := .seq #[] }).get? s.heap.objs.size = some { cls := .type "list", data := .seq #[] } := Heap.get?_push_size _ rfl
  refine ⟨⟨_, hN, rfl⟩, PySem.F.args_list_init_2 _ _, lr_init (A := A.in1) hh (hj.at fun o e => Heap.get?_push_of_some _ e) (hls.push _) n1 (Nat.ne_of_gt (Heap.lt_size hoj)) (Nat.ne_of_gt (Heap.lt_size hol)) hn hN (fun h' tk acc' c' hk hS' hacc => ?_)⟩
  exact ⟨rfl, hQ h' tk acc' c' (fun b o hb e => hk b o (Nat.ne_of_lt (Heap.lt_size e)) hb (Heap.get?_push_of_some _ e)) hS' hacc⟩
end
end K2R
namespace L2
open PySem PySem.Spec PyProof.Rows
def tListRev (K : PySem.W.Frag) (te : TE) : TE := fun σ H Q => te σ H fun v H1 => ∃ (a : Addr) (xs : List V), v = .ref a ∧ SqL K H1 a xs ∧ ∀ p, H1 p = none → Q (.ref p) (upd H1 p (.lst xs.reverse))
section
variable {X : Cx}
/-- list(reversed(a list)) -/
theorem pe_listRev {e : Expr} {te : TE} {p p2 pos pos2 : Pos} (hc : X.calm = true) (hg : Gl X "list") (hm : X.mg "list" = none) (hg2 : Gl X "reversed") (hm2 : X.mg "reversed" = none) (he : PE X e te) (hs : starEach [e] X.env = (false, eval e X.env) :: starEach [] X.env := by rfl)
    (hs2 : starEach [.Call (.Name "reversed" p2) [e] [] pos2] X.env = (false, eval (.Call (.Name "reversed" p2) [e] [] pos2) X.env) :: starEach [] X.env := by rfl) : PE X (.Call (.Name "list" p) [.Call (.Name "reversed" p2) [e] [] pos2] [] pos) (tListRev X.K te) := by
  refine ⟨fun pins s σ H Q I h => ?_⟩
  refine Call_ (ld_blt I hg hm boot_list (PyProof.Rows.callWith_type1 (args_cons (Call_ (ld_blt I hg2 hm2 PyProof.Rows.boot_reversed (PyProof.Rows.callWith_type1 (args_cons (thn (he.run pins s σ H _ I h) fun u s1 ⟨v, H1, I1, r1, q1⟩ => args_nil ?_) hs) hs rfl))) hs2) hs2 rfl))
  obtain ⟨a, xs, rfl, hq, q⟩ := q1
  obtain rfl : u = Value.ref a := r1
  obtain ⟨its, rv, p', hz⟩ := I1.list hq
  refine call_reversed_list p'.isList (args_nil ?_)
  have hl := p'.isList
  obtain ⟨ol, hol, _⟩ := id hl
  refine K2R.lr_call (s := { s1 with heap := s1.heap.push (revObj a ((its.toArray.size : Int) - 1)) }) (I1.ok.hd hc) ⟨_, Heap.get?_push_size _ rfl, rfl, rfl⟩ (hl.push _) (Nat.ne_of_lt (Heap.lt_size hol)) (by rw [List.size_toArray, ← rv.length]; exact hz) fun h' tk acc' c' hk hN hi => ?_
  have hz2 : (xs.reverse).length ≤ sizeLine := by rw [List.length_reverse]; exact hz
  have ek : ∀ b o, s1.heap.get? b = some o → h'.get? b = some o := fun b o e => hk b o (Nat.ne_of_lt (Heap.lt_size e)) (Heap.get?_push_of_some _ e)
  have es : (s1.heap.push (revObj a ((its.toArray.size : Int) - 1))).objs.size = s1.heap.objs.size + 1 := Array.size_push ..
  have hN2 : h'.get? (s1.heap.objs.size + 1) = some { cls := .type "list", dict := none, data := .seq acc'.toList.toArray c', slots := #[] } := by
    rw [Array.toArray_toList, ← es]
    exact hN
  have hle : s1.heap.objs.size ≤ s1.heap.objs.size + 1 := Nat.le_succ _
  have hfin : EP X pins σ Q (.ref (s1.heap.objs.size + 1)) { s1 with heap := h', toks := tk } :=
    ⟨.ref (s1.heap.objs.size + 1), upd H1 (s1.heap.objs.size + 1) (.lst xs.reverse), I1.laid (t' := tk) ek hle ⟨hz2, acc'.toList, c', RT.vals_rev rv hi, hN2⟩, rfl, q _ (I1.hok.fresh hle)⟩
  rw [← es] at hfin
  exact hfin
end
end L2

namespace K2
open PySem L2
/-! ### classes -/
structure KC (K : PySem.W.Frag) (C fI : Addr) (fs : List Str) : Prop where
  mkC : Mk K C fI
  cl : Cls K C
  na : ∀ f ∈ fs, NoAttr K C f
def CCf : List Str := ["octets", "sure"]
def CHf : List Str := ["rest"]
def CDf : List Str := ["_contents", "_sure_contents", "_changes", "_allowed", "_done"]
theorem mk_same {H H1 : Hp} {x dx : Addr} {a b : HO} (nx : H x = none) (ndx : H dx = none) (k : ∀ c o, (upd (upd H dx a) x b) c = some o → c ≠ x → H1 c = some o) : Same H H1 := fun c o h =>
  k c o (by rw [upd_ne (ne_of_none h nx), upd_ne (ne_of_none h ndx)]; exact h) (ne_of_none h nx)
structure Nm (mg : Str → Option Value) : Prop where
  range : mg "range" = none
  int : mg "int" = none
  len : mg "len" = none
  isinstance : mg "isinstance" = none
  bool : mg "bool" = none
  str : mg "str" = none
  min : mg "min" = none
  max : mg "max" = none
  sum : mg "sum" = none
  abs : mg "abs" = none
  enumerate : mg "enumerate" = none
  tuple : mg "tuple" = none
  list : mg "list" = none
  sorted : mg "sorted" = none
  zip : mg "zip" = none
  reversed : mg "reversed" = none
  dict : mg "dict" = none
  ve : mg "ValueError" = none
section
variable {P : Program} {w : World} {K : PySem.W.Frag} {mg : Str → Option Value} {base : Heap}
def spCInit (CC : Addr) : Sp := fun vs H Q _ => ∃ (x dx l : Addr) (os : List V), vs = [.ref x, .ref l] ∧ H x = some (.ins CC dx []) ∧ H l = some (.lst os) ∧
  ∀ H', (∀ c o, H c = some o → c ≠ x → H' c = some o) → H' x = some (.ins CC dx [("octets", .ref l), ("sure", .int (os.length : Int))]) → Q .non H'
theorem scCInit : FnScope ["self", "octets"] ["self", "octets"] (defScope sContentInit) := ⟨rfl, rfl, rfl, by decide +kernel, rfl, by decide +kernel, by decide +kernel⟩
theorem ok_cInit {f CC : Addr} {fd : FuncData} (F : Fun K "__init__" "Content.__init__" sContentInit f fd) (N : Nm mg) (T : KC K CC f CCf) : FnOk P w K mg base CX0 1 f fd ["self", "octets"] (spCInit CC) := by
  refine F.ok scCInit (fun vs H Q E h => ?_) (fun cdv A outer s H vs Q E hr h => ?_)
  · obtain ⟨x, dx, l, os, rfl, _⟩ := h
    rfl
  · obtain ⟨x, dx, l, os, rfl, hx, hl, q⟩ := h
    refine ⟨_, pss_cons (ps_fld (pv 0) (pv 1) rfl) (pss_one (ps_fld (pv 0) (pe_callB call_len_seq (by rfl) N.len PySem.boot_len (pa_cons (pv 1) pa_nil)) rfl)), ?_⟩
    have nlx : l ≠ x := ne_of hl hx (by intro z; cases z)
    refine ⟨_, rfl, _, rfl, x, CC, dx, [], rfl, hx, T.cl, T.na _ (by decide +kernel), (by decide), ?_⟩
    refine ⟨_, rfl, l, os, rfl, .inl (.inl (.inl (by rw [upd_ne nlx]; exact hl))), _, rfl, x, CC, dx, [("octets", .ref l)], rfl, upd_same, T.cl, T.na _ (by decide +kernel), (by show 1 < 1000; decide), q _ (fun c o h n => ?_) upd_same⟩
    rw [upd_ne n, upd_ne n]
    exact h
/-! choices -/
def ChAt (CH : Addr) (H : Hp) (h r : Addr) (cs : List Int) : Prop := (∃ dx, H h = some (.ins CH dx [("rest", .ref r)])) ∧ H r = some (.lst (cs.reverse.map V.int))
def spHInit (K : PySem.W.Frag) (CH : Addr) : Sp := fun vs H Q _ => ∃ (x dx l : Addr) (cs : List Int), vs = [.ref x, .ref l] ∧ H x = some (.ins CH dx []) ∧ SqL K H l (cs.map V.int) ∧
  ∀ H' r, (∀ c o, H c = some o → c ≠ x → H' c = some o) → H r = none → ChAt CH H' x r cs → Q .non H'
theorem scHInit : FnScope ["self", "choices"] ["self", "choices"] (defScope sChoicesInit) := ⟨rfl, rfl, rfl, by decide +kernel, rfl, by decide +kernel, by decide +kernel⟩
theorem ok_hInit {f CH : Addr} {fd : FuncData} (F : Fun K "__init__" "Choices.__init__" sChoicesInit f fd) (N : Nm mg) (T : KC K CH f CHf) : FnOk P w K mg base CX0 1 f fd ["self", "choices"] (spHInit K CH) := by
  refine F.ok scHInit (fun vs H Q E h => ?_) (fun cdv A outer s H vs Q E hr h => ?_)
  · obtain ⟨x, dx, l, cs, rfl, _⟩ := h
    rfl
  · obtain ⟨x, dx, l, cs, rfl, hx, hl, q⟩ := h
    refine ⟨_, pss_one (ps_fld (pv 0) (pe_listRev rfl (by rfl) N.list (by rfl) N.reversed (pv 1)) rfl), ?_⟩
    refine ⟨_, rfl, l, _, rfl, hl, fun r nr => ?_⟩
    have nxr : x ≠ r := ne_of_none hx nr
    refine ⟨_, rfl, x, CH, dx, [], rfl, by rw [upd_ne nxr]; exact hx, T.cl, T.na _ (by decide +kernel), (by decide), q _ r (fun c o h n => ?_) nr ⟨⟨dx, upd_same⟩, ?_⟩⟩
    · rw [upd_ne n, upd_ne (ne_of_none h nr)]
      exact h
    · rw [upd_ne nxr.symm, upd_same, List.map_reverse]
def nb (cs : List Int) (b : Int) : Int := (cs.head?.getD 0) % b
def spNB (CH : Addr) : Sp := fun vs H Q _ => ∃ (h r : Addr) (b : Int) (cs : List Int), vs = [.ref h, .int b] ∧ 0 < b ∧ ChAt CH H h r cs ∧
  ∀ H', (∀ a o, H a = some o → a ≠ r → H' a = some o) → ChAt CH H' h r cs.tail → Q (.int (nb cs b)) H'
theorem scNB : FnScope ["self", "bound"] ["self", "bound"] (defScope sChoicesNextBelow) := ⟨rfl, rfl, rfl, by decide +kernel, rfl, by decide +kernel, by decide +kernel⟩
theorem ok_nb {f fI CH : Addr} {fd : FuncData} (F : Fun K "next_below" "Choices.next_below" sChoicesNextBelow f fd) (T : KC K CH fI CHf) : FnOk P w K mg base CX0 1 f fd ["self", "bound"] (spNB CH) := by
  refine F.ok scNB (fun vs H Q E h => ?_) (fun cdv A outer s H vs Q E hr h => ?_)
  · obtain ⟨h, r, b, cs, rfl, _⟩ := h
    rfl
  · obtain ⟨h, r, b, cs, rfl, hb, ⟨⟨dx, hh⟩, hr2⟩, q⟩ := h
    refine ⟨_, pss_one (ps_ret (pe_ifExp (pt_truth (pe_fld (pv 0) rfl) (by intro _; rfl)) (pe_op op_mod (pe_bm0 PySem.F.plainAttrs_list PySem.F.slot_list_pop PySem.F.type_list_pop mt_pop (pe_fld (pv 0) rfl)) (pv 1)) pe_int)), ?_⟩
    refine ⟨_, rfl, h, CH, dx, _, .ref r, rfl, hh, T.cl, T.na _ (by decide +kernel), rfl, _, .inl ⟨_, .inl (.inl hr2), rfl⟩, ?_⟩
    have nhr : h ≠ r := ne_of hh hr2 (by intro z; cases z)
    cases cs with
    | nil =>
      refine iteF ?_
      have := q H (fun a o h _ => h) ⟨⟨dx, hh⟩, hr2⟩
      rwa [show nb [] b = 0 from Int.zero_emod b] at this
    | cons c cs =>
      refine iteB (by rw [List.reverse_cons, List.map_append]; show (!(_ ++ [V.int c]).isEmpty) = true; simp) ?_
      refine ⟨_, rfl, h, CH, dx, _, .ref r, rfl, hh, T.cl, T.na _ (by decide +kernel), rfl, .inl ⟨rfl, _, .inl (.inl hr2)⟩, r, _, .int c, rfl, rfl, hr2, ?_, ?_⟩
      · rw [List.reverse_cons, List.map_append, List.length_append, List.getElem?_append_right (by simp)]
        simp
      · refine ⟨_, rfl, c, b, rfl, rfl, hb, q _ (fun a o h n => ?_) ⟨⟨dx, ?_⟩, ?_⟩⟩
        · rw [upd_ne n]; exact h
        · rw [upd_ne nhr]; exact hh
        · rw [upd_same, List.reverse_cons, List.map_append]
          show some (HO.lst (_ ++ [V.int c]).dropLast) = _
          rw [List.dropLast_concat]
          rfl
/-! changes of names -/
def ctup (cas : Nat → Addr) : Cg → List V
  | .make n i => [.non, .str n, .ref (cas i)]
  | .ren a b i => [.str a, .str b, .ref (cas i)]
  | .rem a => [.str a, .non, .non]
def spCN : Sp := fun vs H Q _ => ∃ (kd t : Addr) (cas : Nat → Addr) (tb : Tb) (c : Cg), vs = [.ref kd, .ref t] ∧ H t = some (.tup (ctup cas c)) ∧ H kd = some (.dK (mp (fun i => .ref (cas i)) tb)) ∧ okC tb c ∧ tb.length ≤ 1000 ∧
  ∀ H', (∀ a o, H a = some o → a ≠ kd → H' a = some o) → H' kd = some (.dK (mp (fun i => .ref (cas i)) (mv tb c))) → Q .non H'
theorem scCN : FnScope ["contents", "change", "old", "new", "content"] ["contents", "change"] (defScope sChangeNames) := ⟨rfl, rfl, rfl, by decide +kernel, rfl, by decide +kernel, by decide +kernel⟩
theorem ok_cn {f : Addr} {fd : FuncData} (F : Fun K "change_names" "change_names" sChangeNames f fd) : FnOk P w K mg base CX0 1 f fd ["contents", "change"] spCN := by
  refine F.ok scCN (fun vs H Q E h => ?_) (fun cdv A outer s H vs Q E hr h => ?_)
  · obtain ⟨kd, t, cas, tb, c, rfl, _⟩ := h
    rfl
  · obtain ⟨kd, t, cas, tb, c, rfl, ht, hk, ok, hl, q⟩ := h
    have hu := hu_of hr
    refine ⟨_, pss_cons (ps_asg (pv 1) (pg_tup (by rfl) (pgs_cons (pg_name (i := 2) scCN.nd rfl (.inl rfl)) (pgs_cons (pg_name (i := 3) scCN.nd rfl (.inl rfl)) (pgs_cons (pg_name (i := 4) scCN.nd rfl (.inl rfl)) pgs_nil)))))
      (pss_cons (ps_if (pt_cmpR op_notN (pv 2) pe_non (nomark _)) (pss_one (ps_ddel (pv 0) (pv 2))) pss_nil)
      (pss_one (ps_if (pt_cmpR op_notN (pv 3) pe_non (nomark _)) (pss_one (ps_dput hu (pv 0) (pv 3) (pv 4) rfl)) pss_nil))), ?_⟩
    have gl : ∀ tb : Tb, tb.length ≤ 1000 → (mp (fun i => V.ref (cas i)) tb).length < sizeLine := fun tb h => by
      rw [mp_len]
      exact small1000 h
    cases c with
    | make n i =>
      refine ⟨_, rfl, t, _, rfl, SqT.of ht, rfl, _, _, rfl, _, _, rfl, _, _, rfl, rfl, ?_⟩
      refine ⟨_, rfl, rfl, _, rfl, iteF ⟨_, rfl, rfl, _, rfl, iteT ?_⟩⟩
      refine ⟨_, rfl, _, rfl, _, rfl, kd, _, rfl, DPut.k (k := (Sum.inr n : Key)) hk (gl _ hl), q _ (fun a o h m => ?_) ?_⟩
      · rw [upd_ne m]; exact h
      · rw [upd_same, mp_put (fun i => V.ref (cas i)) tb n i]; rfl
    | ren a b i =>
      refine ⟨_, rfl, t, _, rfl, SqT.of ht, rfl, _, _, rfl, _, _, rfl, _, _, rfl, rfl, ?_⟩
      have hd : (valV (mp (fun i => V.ref (cas i)) tb) (Sum.inr a)).isSome = true := by
        rw [mp_get, show tget tb a = some i from ok]
        rfl
      refine ⟨_, rfl, rfl, _, rfl, iteT ⟨_, rfl, _, rfl, kd, _, Sum.inr a, rfl, hk, rfl, hd, ?_⟩⟩
      refine ⟨_, rfl, rfl, _, rfl, iteT ?_⟩
      have hk2 : (upd H kd (.dK (dropK (mp (fun i => V.ref (cas i)) tb) (Sum.inr a)))) kd = some (.dK (mp (fun i => V.ref (cas i)) (tdrop tb a))) := by rw [upd_same, mp_drop]
      refine ⟨_, rfl, _, rfl, _, rfl, kd, _, rfl, DPut.k (k := (Sum.inr b : Key)) hk2 (gl _ (Nat.le_trans (List.length_filter_le _ _) hl)), q _ (fun c o h m => ?_) ?_⟩
      · rw [upd_ne m, upd_ne m]; exact h
      · rw [upd_same, mp_put (fun i => V.ref (cas i)) (tdrop tb a) b i]; rfl
    | rem a =>
      obtain ⟨i, hi⟩ := ok
      refine ⟨_, rfl, t, _, rfl, SqT.of ht, rfl, _, _, rfl, _, _, rfl, _, _, rfl, rfl, ?_⟩
      have hd : (valV (mp (fun i => V.ref (cas i)) tb) (Sum.inr a)).isSome = true := by
        rw [mp_get, hi]
        rfl
      refine ⟨_, rfl, rfl, _, rfl, iteT ⟨_, rfl, _, rfl, kd, _, Sum.inr a, rfl, hk, rfl, hd, ?_⟩⟩
      refine ⟨_, rfl, rfl, _, rfl, iteF (q _ (fun c o h m => ?_) ?_)⟩
      · rw [upd_ne m]; exact h
      · rw [upd_same, mp_drop]; rfl
end
end K2

namespace PySem.W
open PySem PySem.Spec PySem.Calls PyProof.Rows Builtin Builtin.ObjectAttr Builtin.Getset_descriptor
section
variable {prog : Program} {w : World} {A : Around} {E : Value → Shared → Prop} {s : Shared} {K : Frag} {x C : Addr} {ox : Obj} {od : Option Obj} {R : Result → Shared → Prop}
/-- e.__class__, as an expression, for an instance of an exception class of the program -/
theorem mx_classE {gt : Option Value} {Q : Value → Shared → Prop} {ex : Bool} (X : K.In s.heap) (I : InstAt s.heap x ox C od) (hga : findIn K (.ref C) "__getattribute__" = some (some (.builtin "BaseException.__getattribute__"))) (hgt : findIn K (.ref C) "__getattr__" = some gt)
    (hsub : subIn K (.ref C) (.type "BaseException") = some true) (hf : findObj K C od "__class__" = some (.bind (.builtin "getset_descriptor.__get__") (.builtin "object.__class__"))) (hm : mroIn K C (.type "object") = some true)
    (h : Q (.ref C) { s with toks := s.toks + 1 }) : wpAny (model prog w) A (getAttr (.ref x) "__class__" ex) Q E s := by
  obtain ⟨hp, g, d, t, os⟩ := s
  have L0 := I.type (M := model prog w)
  have L1 := looks_findIn (M := model prog w) X hga
  have L2 := looks_findIn (M := model prog w) X hgt
  have L3 := looks_find (M := model prog w) X I hf
  have sub : Looks (model prog w) hp (isInstance (.ref x) (.type "BaseException")) true := L0.andThen (looks_subIn X hsub)
  have hx0 : (ex && onTheHeap (Value.builtin "BaseException.__getattribute__")) = false := by cases ex <;> rfl
  have hx2 : (Value.builtin "BaseException.__getattribute__" == Value.builtin "object.__getattribute__") = false := by decide +kernel
  have hx1 : (onTheHeap (Value.ref C) && Value.builtin "BaseException.__getattribute__" == Value.builtin "object.__getattribute__") = false := by rw [hx2]; rfl
  unfold getAttr getAttrBy
  refine wpAny_bind (wpAny_mkText (wpAny_holding (wpAny_bind (L0.at (wpAny_bind (L1.at ?_))))))
  show wpAny _ _ (if (onTheHeap (Value.ref C) && Value.builtin "BaseException.__getattribute__" == Value.builtin "object.__getattribute__") = true then _ else _) _ _ _
  rw [hx1, if_neg Bool.false_ne_true]
  unfold getAttrByItsOwn hookBefore
  refine wpAny_bind ?_
  rw [if_pos (show onTheHeap (Value.ref C) = true from rfl)]
  refine L2.at ?_
  refine wpAny_bind (wpAny_attempt (wpAny_holding ?_))
  unfold callGetattribute
  rw [hx0, if_neg Bool.false_ne_true]
  unfold boundAndCalled
  rw [PySem.F.excAttr_ValueError.ga.bind (.ref x)]
  refine wpAny_bind (wpAny_pure ?_)
  show wpAny _ _ (call (.builtin "BaseException.__getattribute__") [.ref x, .str "__class__" t]) _ _ _
  refine wpAny_call (codeAny_call_builtin PySem.F.excAttr_ValueError.ga.plain PySem.F.entry_bexc_ga ?_)
  refine @PySem.W.check_slot (model prog w) _ _ ⟨hp, g, d, t + 1, os⟩ "BaseException.__getattribute__" "BaseException" "__getattribute__" (.ref x) [.str "__class__" t] [] _ (by decide +kernel) (by decide +kernel) sub (PySem.F.args_bexc_ga (.ref x) (.str "__class__" t)) ?_
  unfold Builtin.«object.__getattribute__»
  refine wpAny_bind (wpAny_of_eq (a := ((Value.ref x : Value), [Value.str "__class__" t])) (by first | rfl | (simp only [slotArgs]; rfl)) ?_)
  refine wpAny_bind (wpAny_pure (wpAny_bind (L0.at (wpAny_bind (L3.at ?_)))))
  refine wpAny_bind (wpAny_holding (wpAny_call (class_get (s := ⟨hp, g, d, t + 1, os⟩) (ox := ox) (od := od) X I hm ?_)))
  refine wpAny_pure ?_
  show wpAny _ _ (handedOut (.ref C)) _ _ _
  rw [handedOut_of (show handedIn (.ref C) = true from rfl)]
  first | exact wpAny_pure h | exact wpAny_pure (wpAny_pure h)
/-- C.__name__ of a class of the program whose name is kept -/
theorem mx_nameC {o : Obj} {nm : Str} {tk : Tok} {tp : Value} (X : K.In s.heap) (ht : typeIn K (.ref C) = some (.type "type")) (hl : K.lookup C = some o) (hs : o.slots[2]? = some (some (.str nm tk))) (h : R (.ok (.ret (.str nm tk))) s) :
    codeAny (model prog w) A (.call (.builtin "getset_descriptor.__get__") ⟨[.builtin "type.__name__", .ref C, tp], []⟩) R s := by
  obtain ⟨hh, g, dr, t, os⟩ := s
  have L0 := looks_typeIn (M := model prog w) X ht
  have L1 : Looks (model prog w) hh (isSubtype (.type "type") (.type "type")) true := Looks.of_pure (by rw [isSubtype_type]; kernel_rfl)
  have ho := X _ _ hl
  refine codeAny_call_builtin KF.slot_gs.plain KF.entry_gs (KF.slot_gs.check _ _ _ _ _ _ _ _ ktyn_type (KF.args_gs _ _ _) ?_)
  unfold Builtin.«getset_descriptor.__get__» descrGet
  rw [dga_obj]
  refine wpAny_bind (wpAny_pure ?_)
  unfold descrGetter descrCheckInstance descrNameAndClass isInstance
  simp only [ktyn_owner]
  repeat lk
  refine ⟨Code.quiet_builtin _ (by decide +kernel), codeAny_builtin ktyn_entry ?_⟩
  unfold Builtin.«type.__name__»
  dsimp only
  unfold keptObject slotAt
  dsimp only
  refine wpAny_bind (wpAny_bind (wpAny_loadPart ho (wpAny_pure ?_)))
  rw [hs]
  first
    | exact wpAny_bind (wpAny_pure h)
    | exact wpAny_pure h
    | exact wpAny_bind (wpAny_pure (wpAny_pure h))
end
end PySem.W
namespace L2
open PySem PySem.Spec PyProof.Rows
/-- what the written part says of an exception class's name -/
structure NameC (K : PySem.W.Frag) (C : Addr) (nm : Str) : Prop where
  rd : PySem.W.readsIn K C (.type "type") = true
  fc : PySem.W.findCls K (.ref C) (.type "type") "__name__" = some (.get (.builtin "getset_descriptor.__get__") (.builtin "type.__name__") (.ref C) (.type "type"))
  ty : PySem.W.typeIn K (.ref C) = some (.type "type")
  lk : ∃ o tk, K.lookup C = some o ∧ o.slots[2]? = some (some (.str nm tk))
/-- e.__class__, e an exception that is being made -/
def tECls (K : PySem.W.Frag) (te : TE) : TE := fun σ H Q => te σ H fun x H1 => ∃ (a C : Addr) (d : Option Addr), x = .ref a ∧ ExcC K C ∧ H1 a = some (exo a C d) ∧ (∀ dx, d = some dx → ∃ fs, H1 dx = some (exd dx fs)) ∧ Q (.ref C) H1
/-- C.__name__ -/
def tCNm (K : PySem.W.Frag) (te : TE) : TE := fun σ H Q => te σ H fun x H1 => ∃ (C : Addr) (nm : Str), x = .ref C ∧ NameC K C nm ∧ Q (.str nm) H1
section
variable {X : Cx} {e : Expr} {te : TE} {pos : Pos}
theorem pe_eclass (he : PE X e te) (hb : attributeBase e "__class__" X.env (eval e X.env) = eval e X.env := by rfl) : PE X (.Attribute e "__class__" pos) (tECls X.K te) := by
  refine ⟨fun pins s σ H Q I h => ?_⟩
  refine attr_of hb (thn (he.run pins s σ H _ I h) fun u s1 ⟨x, H1, I1, rx, a, C, d, ex, T, ea, hd, q⟩ => ?_)
  subst ex
  obtain rfl : u = Value.ref a := rx
  obtain ⟨t1, ho⟩ := exo_at I1.hok ea
  have hcl : (PySem.W.clsIn X.K C).isSome = true := by
    obtain ⟨cd, hc, _⟩ := PySem.W.any_some T.hd
    rw [hc]
    rfl
  have key : ∀ od, PySem.W.InstAt s1.heap a { cls := .ref C, dict := d, data := .fields #[.ref t1, .none, .none, .none, .bool false, .none] } C od → wpAny (model X.prog X.w) X.A (getAttr (.ref a) "__class__" true) (EP X pins σ Q) X.xe s1 := fun od J =>
    PySem.W.mx_classE I1.kIn J T.hg T.hk T.hs (PySem.W.findObj_dataE hcl T.ha T.hn T.ht) T.hm ⟨.ref C, H1, I1.tok _, rfl, q⟩
  cases d with
  | none => exact key none ⟨ho, rfl, rfl, trivial⟩
  | some dx =>
    obtain ⟨fs, ed⟩ := hd dx rfl
    obtain ⟨mA, ⟨oD, _, _, hoD, _⟩, _⟩ := exd_at I1.hok ed
    exact key (some oD) ⟨ho, rfl, rfl, hoD⟩
theorem pe_cname (he : PE X e te) (hb : attributeBase e "__name__" X.env (eval e X.env) = eval e X.env := by rfl) : PE X (.Attribute e "__name__" pos) (tCNm X.K te) := by
  refine ⟨fun pins s σ H Q I h => ?_⟩
  refine attr_of hb (thn (he.run pins s σ H _ I h) fun u s1 ⟨x, H1, I1, rx, C, nm, ex, T, q⟩ => ?_)
  subst ex
  obtain rfl : u = Value.ref C := rx
  obtain ⟨o, tk, hl, hs⟩ := T.lk
  refine PySem.W.cls_bind I1.kIn T.rd T.fc (wpAny_call (PySem.W.mx_nameC (s := { s1 with toks := s1.toks + 1 }) I1.kIn T.ty hl hs ?_))
  exact PySem.W.handed_on rfl ⟨.str nm, H1, I1.tok _, ⟨_, rfl⟩, q⟩
/-- isinstance(e, c), e the exception that the suite holds, which has its dict -/
def rIsE2 (K : PySem.W.Frag) (D a : Addr) (cls : Value) (d : Option Addr) : List V → Hp → VK → Prop := fun xs H Q => ∃ (c : V) (cv : Value) (b : Bool) (dd : Addr) (fs : List (Str × V)), xs = [.ref a, c] ∧ cls = .ref D ∧ d = some dd ∧ H dd = some (.xd fs) ∧ (∀ u, RelV c u → u = cv) ∧ PySem.W.kitOne K (.ref D) cv = some b ∧ Q (.bl b) H
theorem call_isE2 {a D : Addr} {oe : Obj} {cls : Value} {d : Option Addr} {pn : List (Addr × Obj)} (C : ExcC X.K D) (hz : Zc cls d oe) (hf : ∃ vs, oe.data = .fields vs) : CallR (X.suite a ((a, oe) :: pn)) (.builtin "isinstance") (rIsE2 X.K D a cls d) := by
  intro pins s σ H xs us Q I r h
  obtain ⟨c, cv, b, dd, fs, rfl, ec, ed, ea, hcv, e, q⟩ := h
  subst ec
  cases r with
  | cons rx rr =>
    cases rr with
    | cons rt rr =>
      cases rr
      cases rx
      have ec := hcv _ rt
      subst ec
      obtain ⟨hget, _⟩ := I.pin (a, oe) (List.mem_append.mpr (.inl List.mem_cons_self))
      obtain ⟨vs, hv⟩ := hf
      have hx : ObjOk X.prog X.w H s.heap dd (.xd fs) := I.hok dd _ ea
      obtain ⟨mA, ⟨od, _, _, hod, _⟩, _⟩ := hx
      have hcl : (PySem.W.clsIn X.K D).isSome = true := by
        obtain ⟨cd, hc, _⟩ := PySem.W.any_some C.hd
        rw [hc]
        rfl
      have J : PySem.W.InstAt s.heap a oe D (some od) := ⟨hget, hz.1, by unfold PySem.W.notCls; rw [hv] <;> rfl, by rw [hz.2, ed]; exact hod⟩
      exact PySem.W.kia_one (PySem.W.kitx_exc hcl C.hg C.hk C.hs C.ha C.hn C.ht C.hm) I.kIn J e (fun z => nomatch z) fun tk => ⟨.bl b, H, I.kept (t' := tk) fun _ _ z => z, rfl, q⟩
theorem passNo {X : Cx} : Passes (L2.CX X.prog X.w) X (fun _ _ _ => False) := fun _ _ _ _ _ _ _ h => by
  obtain ⟨_, _, _, _, _, _, _, _, _, _, _, _, q⟩ := h
  exact q.elim
end
end L2

namespace L2
open PySem PySem.Spec PyProof.Rows
/-- o.m(e, ..), what is raised is wished for at the caller's slots -/
def tMethX (C : Addr) (m : Str) (sp : Sp) (E : St → XK) (ta : TE) (t : TA) : TE := fun σ H Q => ta σ H fun x H1 => ∃ a dx fs, x = .ref a ∧ H1 a = some (.ins C dx fs) ∧ fs.lookup m = none ∧
    t σ H1 fun vs H2 => sp (x :: vs) H2 Q (E σ)
section
variable {X : Cx} {CX : CXT} {k : Nat} {f C : Addr} {fd : FuncData} {ps : List Str} {sp : Sp} {E : St → XK} {m : Str} {pos apos : Pos} {e o : Expr} {es : List Expr} {ta : TE} {t : TA}
theorem pe_methX {pl : Sem Bool} (ho : PE X o ta) (cl : Cls X.K C) (hm : Meth X.K C m f) (F : FnOk X.prog X.w X.K X.mg X.base CX k f fd ps sp) (room : Room k X.A) (hb : Binds X.K fd ps []) (hx : ∀ σ, PassesAt CX X σ (E σ)) (ha : PA X (e :: es) t)
    (hst : starEach (e :: es) X.env = (false, eval e X.env) :: starEach es X.env := by rfl) (hpl : (backTo pos (starEach es X.env)).any (·.1) = false := by rfl)
    (ht : eval (.Call (.Attribute o m apos) (e :: es) [] pos) X.env = (do
        let ov ← eval o X.env
        standAt apos.atName
        let (g, one) ← holding [ov] (getMethod ov m pl)
        callWith pos g one (backTo pos (starEach (e :: es) X.env)) (backToKw pos (keywordEach [] X.env))) := by rfl) : PE X (.Call (.Attribute o m apos) (e :: es) [] pos) (tMethX C m sp E ta t) := by
  refine ⟨fun pins s σ H Q I h => PySem.W.methodCall_KW (pl := pl) (thn (ho.run pins s σ H _ I h) fun u s1 ⟨x, H1, I1, rx, a, dx, fs, ex, ea, l, q⟩ => ?_) ht⟩
  subst ex
  obtain rfl : u = Value.ref a := rx
  refine getmeth_ok I1 ea cl hm l (PySem.W.callWith_K (first := [.ref a]) (h₀ := X.base) I.ok.mod.kin hm.kp (thn (ha.run pos pins s1 σ H1 _ I1 q) fun us s2 ⟨vs, H2, I2, r, q2⟩ => ⟨I2.kIn, ?_⟩) hst hpl)
  exact run_fnS (us := .ref a :: us) (vs := .ref a :: vs) F room hb (hx σ) I2 (.cons rfl r) q2
theorem pe_methX0 {pl : Sem Bool} (ho : PE X o ta) (cl : Cls X.K C) (hm : Meth X.K C m f) (F : FnOk X.prog X.w X.K X.mg X.base CX k f fd ps sp) (room : Room k X.A) (hb : Binds X.K fd ps []) (hx : ∀ σ, PassesAt CX X σ (E σ))
    (ht : eval (.Call (.Attribute o m apos) [] [] pos) X.env = (do
        let ov ← eval o X.env
        standAt apos.atName
        let (g, one) ← holding [ov] (getMethod ov m pl)
        callWith pos g one (backTo pos (starEach [] X.env)) (backToKw pos (keywordEach [] X.env))) := by rfl) : PE X (.Call (.Attribute o m apos) [] [] pos) (tMethX C m sp E ta tNil) := by
  refine ⟨fun pins s σ H Q I h => PySem.W.methodCall_KW (pl := pl) (thn (ho.run pins s σ H _ I h) fun u s1 ⟨x, H1, I1, rx, a, dx, fs, ex, ea, l, q⟩ => ?_) ht⟩
  subst ex
  obtain rfl : u = Value.ref a := rx
  exact getmeth_ok I1 ea cl hm l (PySem.W.callWith_K0 (first := [.ref a]) I1.kIn hm.kp (run_fnS (us := [.ref a]) (vs := [.ref a]) F room hb (hx σ) I1 (.cons rfl .nil) q))
end
end L2
namespace K2
open PySem L2
structure ErrC (K : PySem.W.Frag) (C fI : Addr) (nm : Str) : Prop where
  oc : OexC K C
  ec : ExcC K C
  nc : NameC K C nm
  xf : XfC K C
  noP : PySem.W.findIn K (.ref C) "place" = some none
  noN : PySem.W.findIn K (.ref C) "name" = some none
  iC : PySem.W.findIn K (.ref C) "__init__" = some (some (.ref fI))
  tI : PySem.W.typeIn K (.ref fI) = some (.type "function")
section
variable {P : Program} {w : World} {K : PySem.W.Frag} {mg : Str → Option Value} {base : Heap}
def spInit (K : PySem.W.Frag) (fI : Addr) : Sp := fun vs H Q _ => ∃ (a C : Addr) (nm : Str) (v : V), vs = [.ref a, v] ∧ ErrC K C fI nm ∧ H a = some (exo a C none) ∧
  ∀ dx, H dx = none → dx ≠ a → Q .non (upd (upd (upd H dx (exd dx [("place", v)])) a (exo a C (some dx))) dx (exd dx [("name", .str nm), ("place", v)]))
theorem scInit : FnScope ["self", "place"] ["self", "place"] (defScope sInit) := ⟨rfl, rfl, rfl, by decide +kernel, rfl, by decide +kernel, by decide +kernel⟩
theorem ok_init {f : Addr} {fd : FuncData} (F : Fun K "__init__" "ManysidesError.__init__" sInit f fd) : FnOk P w K mg base CX0 1 f fd ["self", "place"] (spInit K f) := by
  refine F.ok scInit (fun vs H Q E h => ?_) (fun cdv A outer s H vs Q E hr h => ?_)
  · obtain ⟨a, C, nm, v, rfl, _⟩ := h
    rfl
  · obtain ⟨a, C, nm, v, rfl, T, ha, q⟩ := h
    refine ⟨_, pss_cons (ps_ost (pv 0) (pv 1)) (pss_one (ps_ost (pv 0) (pe_cname (pe_eclass (pv 0))))), ?_⟩
    refine ⟨_, rfl, _, rfl, a, C, rfl, T.oc, T.noP, .inl ⟨ha, fun dx ndx nda => ?_⟩⟩
    have e1 : (upd (upd H dx (exd dx [("place", v)])) a (exo a C (some dx))) dx = some (exd dx [("place", v)]) := by rw [upd_ne nda, upd_same]
    refine ⟨_, rfl, a, C, some dx, rfl, T.ec, upd_same, fun d e => ?_, C, nm, rfl, T.nc, _, rfl, a, C, rfl, T.oc, T.noN, .inr ⟨dx, _, upd_same, e1, (by show 1 ≤ 900; decide), q dx ndx nda⟩⟩
    cases e
    exact ⟨_, e1⟩
end
theorem same_err {H H3 : Hp} {e dx : Addr} {o1 o2 o3 o4 o5 : HO} (sm : Same H H3) (ne : H3 e = none) (nx : H3 dx = none) : Same H (upd (del (upd (upd (upd (upd H3 e o1) dx o2) e o3) dx o4) e) dx o5) := fun b o hb => by
  have y := sm b o hb
  have n1 : b ≠ e := ne_of_none y ne
  have n2 : b ≠ dx := ne_of_none y nx
  rw [upd_ne n2, del_ne n1, upd_ne n2, upd_ne n1, upd_ne n2, upd_ne n1]
  exact y
def errD (i : Nat) : HO := .xd [("name", .str "PowerLost"), ("place", .int (i : Int))]
end K2

namespace K2
open PySem L2
/-! ### a disk -/
structure Cn where
  o : List Int
  s : Nat
structure DS where
  cs : List Cn
  tab : Tb
  sure : Tb
  chg : List Cg
  lim : Option Nat
  done : Nat
def ds0 : DS := ⟨[], [], [], [], none, 0⟩
structure DP where
  cas : Nat → Addr
  las : Nat → Addr
  kd : Addr
  sd : Addr
  cl : Addr
def foot (d : Addr) (p : DP) (n : Nat) (a : Addr) : Prop := a = d ∨ a = p.kd ∨ a = p.sd ∨ a = p.cl ∨ ∃ i, i < n ∧ (a = p.cas i ∨ a = p.las i)
def limV : Option Nat → V
  | none => .non
  | some n => .int (n : Int)
def dfs (p : DP) (l : Option Nat) (n : Nat) : List (Str × V) := [("_contents", .ref p.kd), ("_sure_contents", .ref p.sd), ("_changes", .ref p.cl), ("_allowed", limV l), ("_done", .int (n : Int))]
structure DkAt (CD CC : Addr) (H : Hp) (d : Addr) (st : DS) (p : DP) : Prop where
  inst : ∃ dx, H d = some (.ins CD dx (dfs p st.lim st.done))
  con : H p.kd = some (.dK (mp (fun i => .ref (p.cas i)) st.tab))
  sur : H p.sd = some (.dK (mp (fun i => .ref (p.cas i)) st.sure))
  chs : ∃ xs, H p.cl = some (.lst xs) ∧ Rows H xs (st.chg.map (ctup p.cas))
  cts : ∀ i c, st.cs[i]? = some c → ∃ dx, H (p.cas i) = some (.ins CC dx [("octets", .ref (p.las i)), ("sure", .int (c.s : Int))]) ∧ H (p.las i) = some (.lst (c.o.map V.int))
  n1 : p.kd ≠ p.sd
  n2 : ∀ i, i < st.cs.length → p.las i ≠ p.cl
  n3 : ∀ i j, i < st.cs.length → j < st.cs.length → p.las i = p.las j → i = j
  n4 : ∀ i j, i < st.cs.length → j < st.cs.length → p.cas i = p.cas j → i = j
section
variable {CD CC : Addr} {H H1 : Hp} {d : Addr} {st : DS} {p : DP}
theorem DkAt.occ (h : DkAt CD CC H d st p) {a : Addr} (f : foot d p st.cs.length a) : ∃ o, H a = some o ∧ ∀ r, o ≠ .tup r := by
  rcases f with rfl | rfl | rfl | rfl | ⟨i, hi, rfl | rfl⟩
  · obtain ⟨dx, e⟩ := h.inst; exact ⟨_, e, fun r z => nomatch z⟩
  · exact ⟨_, h.con, fun r z => nomatch z⟩
  · exact ⟨_, h.sur, fun r z => nomatch z⟩
  · obtain ⟨xs, e, _⟩ := h.chs; exact ⟨_, e, fun r z => nomatch z⟩
  · obtain ⟨dx, e, _⟩ := h.cts i _ (List.getElem?_eq_getElem hi); exact ⟨_, e, fun r z => nomatch z⟩
  · obtain ⟨dx, _, e⟩ := h.cts i _ (List.getElem?_eq_getElem hi); exact ⟨_, e, fun r z => nomatch z⟩
theorem DkAt.nfree (h : DkAt CD CC H d st p) {a : Addr} (n : H a = none) : ¬ foot d p st.cs.length a := fun f => by
  obtain ⟨o, e, _⟩ := h.occ f
  rw [n] at e
  cases e
theorem DkAt.ntup (h : DkAt CD CC H d st p) {a : Addr} {r : List V} (n : H a = some (.tup r)) : ¬ foot d p st.cs.length a := fun f => by
  obtain ⟨o, e, g⟩ := h.occ f
  rw [n] at e
  exact g r (Option.some.inj e).symm
theorem DkAt.keep (h : DkAt CD CC H d st p) (k : ∀ a o, H a = some o → (foot d p st.cs.length a ∨ ∃ r, o = .tup r) → H1 a = some o) : DkAt CD CC H1 d st p := by
  have lt : ∀ {i c}, st.cs[i]? = some c → i < st.cs.length := fun e => (List.getElem?_eq_some_iff.mp e).1
  refine ⟨?_, k _ _ h.con (.inl (.inr (.inl rfl))), k _ _ h.sur (.inl (.inr (.inr (.inl rfl)))), ?_, fun i c e => ?_, h.n1, h.n2, h.n3, h.n4⟩
  · obtain ⟨dx, e⟩ := h.inst
    exact ⟨dx, k _ _ e (.inl (.inl rfl))⟩
  · obtain ⟨xs, e, r⟩ := h.chs
    exact ⟨xs, k _ _ e (.inl (.inr (.inr (.inr (.inl rfl))))), r.keep fun a r e => k _ _ e (.inr ⟨r, rfl⟩)⟩
  · obtain ⟨dx, e1, e2⟩ := h.cts i c e
    exact ⟨dx, k _ _ e1 (.inl (.inr (.inr (.inr (.inr ⟨i, lt e, .inl rfl⟩))))), k _ _ e2 (.inl (.inr (.inr (.inr (.inr ⟨i, lt e, .inr rfl⟩)))))⟩
theorem DkAt.same (h : DkAt CD CC H d st p) (s : Same H H1) : DkAt CD CC H1 d st p := h.keep fun a o e _ => s a o e
theorem DkAt.inst' (h : DkAt CD CC H d st p) : ∃ dx, H d = some (.ins CD dx [("_contents", .ref p.kd), ("_sure_contents", .ref p.sd), ("_changes", .ref p.cl), ("_allowed", limV st.lim), ("_done", .int (st.done : Int))]) := h.inst
/-- the instance alone is written -/
theorem DkAt.fld (h : DkAt CD CC H d st p) {l : Option Nat} {n : Nat} {dx : Addr} (k : ∀ a o, H a = some o → a ≠ d → H1 a = some o) (e : H1 d = some (.ins CD dx (dfs p l n))) : DkAt CD CC H1 d { st with lim := l, done := n } p := by
  obtain ⟨dx0, e0⟩ := h.inst
  have nd : ∀ {a o}, H a = some o → (∀ C dx fs, o ≠ .ins C dx fs) → a ≠ d := fun ha ho => ne_of ha e0 (ho _ _ _)
  refine ⟨⟨dx, e⟩, k _ _ h.con (nd h.con fun _ _ _ z => nomatch z), k _ _ h.sur (nd h.sur fun _ _ _ z => nomatch z), ?_, fun i c hc => ?_, h.n1, h.n2, h.n3, h.n4⟩
  · obtain ⟨xs, e, r⟩ := h.chs
    exact ⟨xs, k _ _ e (nd e fun _ _ _ z => nomatch z), r.keep fun a r e => k _ _ e (nd e fun _ _ _ z => nomatch z)⟩
  · obtain ⟨dx1, e1, e2⟩ := h.cts i c hc
    exact ⟨dx1, k _ _ e1 (ne_of e1 e0 (by intro z; cases z)), k _ _ e2 (nd e2 fun _ _ _ z => nomatch z)⟩
end
def DS.tick (st : DS) : DS := { st with lim := st.lim.map (· - 1), done := st.done + 1 }
section
variable {P : Program} {w : World} {K : PySem.W.Frag} {mg : Str → Option Value} {base : Heap}
theorem cutab {xs : List V} (a b : Nat) : cutV xs (some (a : Int)) (some ((a : Int) + (b : Int))) = (xs.drop a).take b := by
  unfold cutV
  rw [show (a : Int) + (b : Int) = ((a + b : Nat) : Int) from by omega, show HT.sIx xs.length 0 (some (a : Int)) = min a xs.length from HT.sIx_nat _ _ a, show HT.sIx xs.length xs.length (some ((a + b : Nat) : Int)) = min (a + b) xs.length from HT.sIx_nat _ _ (a + b)]
  by_cases h : a ≤ xs.length
  · rw [Nat.min_eq_left h]
    by_cases g : a + b ≤ xs.length
    · rw [Nat.min_eq_left g, Nat.add_sub_cancel_left]
    · rw [Nat.min_eq_right (by omega), List.take_of_length_le (by rw [List.length_drop]; omega), List.take_of_length_le (by rw [List.length_drop]; omega)]
  · rw [Nat.min_eq_right (by omega), Nat.min_eq_right (by omega), List.drop_of_length_le (Nat.le_refl _), List.drop_of_length_le (by omega)]
    simp
def spNames (CD CC : Addr) : Sp := fun vs H Q _ => ∃ (d : Addr) (st : DS) (p : DP) (n : Nat), vs = [.ref d] ∧ DkAt CD CC H d st p ∧ TbOk n st.tab ∧
  ∀ H' q, Same H H' → H q = none → H' q = some (.lst ((srt (st.tab.map (·.1))).map V.str)) → Q (.ref q) H'
theorem scNames : FnScope ["self"] ["self"] (defScope sDiskNames) := ⟨rfl, rfl, rfl, by decide +kernel, rfl, by decide +kernel, by decide +kernel⟩
theorem ok_names {f fI CD CC : Addr} {fd : FuncData} (F : Fun K "names" "Disk.names" sDiskNames f fd) (N : Nm mg) (T : KC K CD fI CDf) : FnOk P w K mg base CX0 1 f fd ["self"] (spNames CD CC) := by
  refine F.ok scNames (fun vs H Q E h => ?_) (fun cdv A outer s H vs Q E hr h => ?_)
  · obtain ⟨d, st, p, n, rfl, _⟩ := h
    rfl
  · obtain ⟨d, st, p, n, rfl, hd, ht, q⟩ := h
    refine ⟨_, pss_one (ps_ret (pe_callB (call_sortedD rfl) (by rfl) N.sorted (by decide +kernel) (pa_cons (pe_fld (pv 0) rfl) pa_nil))), ?_⟩
    obtain ⟨dx, hi⟩ := hd.inst'
    refine ⟨_, rfl, d, CD, dx, _, .ref p.kd, rfl, hi, T.cl, T.na _ (by decide +kernel), rfl, p.kd, _, st.tab.map (·.1), rfl, Rd.of hd.con, mp_keys _ _, (by rw [List.length_map]; have := ht.len; omega), fun ys q1 pm sr nq => ?_⟩
    rw [ht.srt pm sr]
    exact q _ q1 (same_new nq) nq upd_same
def spSize (CD CC : Addr) : Sp := fun vs H Q _ => ∃ (d : Addr) (st : DS) (p : DP) (n : Str), vs = [.ref d, .str n] ∧ DkAt CD CC H d st p ∧ (tget st.tab n = none → Q .non H) ∧ ∀ i, tget st.tab n = some i → ∃ c, st.cs[i]? = some c ∧ Q (.int (c.o.length : Int)) H
theorem scSize : FnScope ["self", "name"] ["self", "name"] (defScope sDiskSize) := ⟨rfl, rfl, rfl, by decide +kernel, rfl, by decide +kernel, by decide +kernel⟩
theorem DkAt.get {CD CC : Addr} {H : Hp} {d : Addr} {st : DS} {p : DP} (h : DkAt CD CC H d st p) (n : Str) : DGet H p.kd (.str n) ((tget st.tab n).map fun i => V.ref (p.cas i)) := by
  have := DGet.k (k := (Sum.inr n : Key)) h.con
  rwa [mp_get] at this
theorem ok_size {f fI fC CD CC : Addr} {fd : FuncData} (F : Fun K "size" "Disk.size" sDiskSize f fd) (N : Nm mg) (T : KC K CD fI CDf) (TC : KC K CC fC CCf) : FnOk P w K mg base CX0 1 f fd ["self", "name"] (spSize CD CC) := by
  refine F.ok scSize (fun vs H Q E h => ?_) (fun cdv A outer s H vs Q E hr h => ?_)
  · obtain ⟨d, st, p, n, rfl, _⟩ := h
    rfl
  · obtain ⟨d, st, p, n, rfl, hd, q0, q⟩ := h
    have hu := hu_of hr
    refine ⟨_, pss_one (ps_ret (pe_ifExp (pt_cmp (pc_din hu (pv 1) (pe_fld (pv 0) rfl))) (pe_callB call_len_seq (by rfl) N.len PySem.boot_len (pa_cons (pe_fld (pe_dget hu (pe_fld (pv 0) rfl) (pv 1) (fun _ _ => rfl)) rfl) pa_nil)) pe_non)), ?_⟩
    obtain ⟨dx, hi⟩ := hd.inst'
    have hg := hd.get n
    refine ⟨_, rfl, _, rfl, d, CD, dx, _, .ref p.kd, rfl, hi, T.cl, T.na _ (by decide +kernel), rfl, p.kd, _, rfl, hg, _, rfl, ?_⟩
    cases e : tget st.tab n with
    | none => exact iteF (q0 e)
    | some i =>
      obtain ⟨c, hc, q⟩ := q i e
      obtain ⟨dx1, e1, e2⟩ := hd.cts i c hc
      rw [e] at hg
      refine iteT ⟨_, rfl, d, CD, dx, _, .ref p.kd, rfl, hi, T.cl, T.na _ (by decide +kernel), rfl, _, rfl, p.kd, .ref (p.cas i), rfl, hg, p.cas i, CC, dx1, _, .ref (p.las i), rfl, e1, TC.cl, TC.na _ (by decide +kernel), rfl, p.las i, _, rfl, .inl (.inl (.inl e2)), ?_⟩
      rw [List.length_map]
      exact q
def spRead (CD CC : Addr) : Sp := fun vs H Q _ => ∃ (d : Addr) (st : DS) (p : DP) (n : Str) (a b i : Nat) (c : Cn), vs = [.ref d, .str n, .int (a : Int), .int (b : Int)] ∧ DkAt CD CC H d st p ∧ tget st.tab n = some i ∧ st.cs[i]? = some c ∧
  ∀ H' q, Same H H' → H q = none → H' q = some (.lst (((c.o.drop a).take b).map V.int)) → Q (.ref q) H'
theorem scRead : FnScope ["self", "name", "start", "count"] ["self", "name", "start", "count"] (defScope sDiskRead) := ⟨rfl, rfl, rfl, by decide +kernel, rfl, by decide +kernel, by decide +kernel⟩
theorem ok_read {f fI fC CD CC : Addr} {fd : FuncData} (F : Fun K "read" "Disk.read" sDiskRead f fd) (T : KC K CD fI CDf) (TC : KC K CC fC CCf) : FnOk P w K mg base CX0 1 f fd ["self", "name", "start", "count"] (spRead CD CC) := by
  refine F.ok scRead (fun vs H Q E h => ?_) (fun cdv A outer s H vs Q E hr h => ?_)
  · obtain ⟨d, st, p, n, a, b, i, c, rfl, _⟩ := h
    rfl
  · obtain ⟨d, st, p, n, a, b, i, c, rfl, hd, ht, hc, q⟩ := h
    have hu := hu_of hr
    refine ⟨_, pss_one (ps_ret (pe_slice sl_list (pe_fld (pe_dget hu (pe_fld (pv 0) rfl) (pv 1) (fun _ _ => rfl)) rfl) (po_some (pv 2)) (po_some (pe_op op_add (pv 2) (pv 3))))), ?_⟩
    obtain ⟨dx, hi⟩ := hd.inst'
    have hg := hd.get n
    rw [ht] at hg
    obtain ⟨dx1, e1, e2⟩ := hd.cts i c hc
    refine ⟨_, rfl, d, CD, dx, _, .ref p.kd, rfl, hi, T.cl, T.na _ (by decide +kernel), rfl, _, rfl, p.kd, .ref (p.cas i), rfl, hg, p.cas i, CC, dx1, _, .ref (p.las i), rfl, e1, TC.cl, TC.na _ (by decide +kernel), rfl, ?_⟩
    refine ⟨_, rfl, _, rfl, _, rfl, _, rfl, _, _, rfl, rfl, _, rfl, p.las i, _, rfl, .inl (.inl e2), fun q1 nq => ?_⟩
    refine q _ q1 (same_new nq) nq ?_
    rw [upd_same, cutab, List.map_take, List.map_drop]
def spAllow (CD CC : Addr) : Sp := fun vs H Q _ => ∃ (d : Addr) (st : DS) (p : DP) (l : Option Nat), vs = [.ref d, limV l] ∧ DkAt CD CC H d st p ∧ ∀ H', (∀ a o, H a = some o → a ≠ d → H' a = some o) → DkAt CD CC H' d { st with lim := l } p → Q .non H'
theorem scAllow : FnScope ["self", "count"] ["self", "count"] (defScope sDiskAllow) := ⟨rfl, rfl, rfl, by decide +kernel, rfl, by decide +kernel, by decide +kernel⟩
theorem ok_allow {f fI CD CC : Addr} {fd : FuncData} (F : Fun K "allow" "Disk.allow" sDiskAllow f fd) (T : KC K CD fI CDf) : FnOk P w K mg base CX0 1 f fd ["self", "count"] (spAllow CD CC) := by
  refine F.ok scAllow (fun vs H Q E h => ?_) (fun cdv A outer s H vs Q E hr h => ?_)
  · obtain ⟨d, st, p, l, rfl, _⟩ := h
    rfl
  · obtain ⟨d, st, p, l, rfl, hd, q⟩ := h
    obtain ⟨dx, hi⟩ := hd.inst'
    refine ⟨_, pss_one (ps_fld (pv 0) (pv 1) rfl), ?_⟩
    refine ⟨_, rfl, _, rfl, d, CD, dx, _, rfl, hi, T.cl, T.na _ (by decide +kernel), (by show 5 < 1000; decide), q _ (fun a o h n => by rw [upd_ne n]; exact h) ?_⟩
    exact hd.fld (l := l) (n := st.done) (fun a o h n => by rw [upd_ne n]; exact h) (by rw [upd_same]; rfl)
def spDone (CD CC : Addr) : Sp := fun vs H Q _ => ∃ (d : Addr) (st : DS) (p : DP), vs = [.ref d] ∧ DkAt CD CC H d st p ∧ Q (.int (st.done : Int)) H
theorem scDone : FnScope ["self"] ["self"] (defScope sDiskDone) := ⟨rfl, rfl, rfl, by decide +kernel, rfl, by decide +kernel, by decide +kernel⟩
theorem ok_done {f fI CD CC : Addr} {fd : FuncData} (F : Fun K "done" "Disk.done" sDiskDone f fd) (T : KC K CD fI CDf) : FnOk P w K mg base CX0 1 f fd ["self"] (spDone CD CC) := by
  refine F.ok scDone (fun vs H Q E h => ?_) (fun cdv A outer s H vs Q E hr h => ?_)
  · obtain ⟨d, st, p, rfl, _⟩ := h
    rfl
  · obtain ⟨d, st, p, rfl, hd, q⟩ := h
    obtain ⟨dx, hi⟩ := hd.inst'
    refine ⟨_, pss_one (ps_ret (pe_fld (pv 0) rfl)), ?_⟩
    exact ⟨_, rfl, d, CD, dx, _, _, rfl, hi, T.cl, T.na _ (by decide +kernel), rfl, q⟩
end
end K2

namespace K2
open PySem L2
/-! ### the deeds -/
structure Gd (st : DS) : Prop where
  T : TbOk st.cs.length st.tab
  S : TbOk st.cs.length st.sure
  C : ∀ c ∈ st.chg, CgOk st.cs.length c
  R : st.tab = run st.sure st.chg
  O : ∀ j c, st.chg[j]? = some c → okC (run st.sure (st.chg.take j)) c
def DS.setc (st : DS) (i : Nat) (c : Cn) : DS := { st with cs := st.cs.set i c }
def DS.addc (st : DS) : DS := { st with cs := st.cs ++ [⟨[], 0⟩] }
def DS.chgd (st : DS) (c : Cg) : DS := { st with tab := mv st.tab c, chg := st.chg ++ [c] }
def DP.add (p : DP) (n : Nat) (x l : Addr) : DP := { p with cas := fun j => if j = n then x else p.cas j, las := fun j => if j = n then l else p.las j }
theorem mp_congr {g h : Nat → V} {t : Tb} {n : Nat} (ht : TbOk n t) (e : ∀ i, i < n → g i = h i) : mp g t = mp h t := by
  unfold mp
  refine List.map_congr_left fun p hp => ?_
  rw [e _ (ht.ix p hp)]
theorem ctup_congr {a b : Nat → Addr} {c : Cg} {n : Nat} (hc : CgOk n c) (e : ∀ i, i < n → a i = b i) : ctup a c = ctup b c := by
  cases c with
  | make m i => show [_, _, V.ref (a i)] = [_, _, V.ref (b i)]; rw [e i hc.2]
  | ren x y i => show [_, _, V.ref (a i)] = [_, _, V.ref (b i)]; rw [e i hc.2]
  | rem x => rfl
theorem Gd.setc {st : DS} (h : Gd st) (i : Nat) (c : Cn) : Gd (st.setc i c) := by
  have e : (st.setc i c).cs.length = st.cs.length := List.length_set
  exact ⟨by rw [e]; exact h.T, by rw [e]; exact h.S, by rw [e]; exact h.C, h.R, h.O⟩
theorem Gd.addc {st : DS} (h : Gd st) : Gd st.addc := by
  have e : st.cs.length ≤ st.addc.cs.length := by
    show _ ≤ (st.cs ++ [_]).length
    rw [List.length_append]; omega
  exact ⟨h.T.mono e, h.S.mono e, fun c hc => (h.C c hc).mono e, h.R, h.O⟩
theorem Gd.tick {st : DS} (h : Gd st) : Gd st.tick := ⟨h.T, h.S, h.C, h.R, h.O⟩
theorem Gd.lim {st : DS} (h : Gd st) (l : Option Nat) : Gd { st with lim := l } := ⟨h.T, h.S, h.C, h.R, h.O⟩
theorem Gd.chgd {st : DS} (h : Gd st) {c : Cg} (ok : okC st.tab c) (hc : CgOk st.cs.length c) : Gd (st.chgd c) := by
  refine ⟨h.T.mv hc, h.S, fun x hx => ?_, ?_, fun j x hx => ?_⟩
  · rcases List.mem_append.mp hx with z | z
    · exact h.C x z
    · rw [List.mem_singleton.mp z]; exact hc
  · show mv st.tab c = run st.sure (st.chg ++ [c])
    rw [run_snoc, ← h.R]
  · have hx : (st.chg ++ [c])[j]? = some x := hx
    show okC (run st.sure ((st.chg ++ [c]).take j)) x
    rcases Nat.lt_trichotomy j st.chg.length with hj | hj | hj
    · rw [List.getElem?_append_left hj] at hx
      rw [List.take_append_of_le_length (Nat.le_of_lt hj)]
      exact h.O j x hx
    · subst hj
      rw [List.getElem?_append_right (Nat.le_refl _), Nat.sub_self] at hx
      obtain rfl := Option.some.inj hx
      rw [List.take_append_of_le_length (Nat.le_refl _), List.take_length, ← h.R]
      exact ok
    · rw [List.getElem?_eq_none (by rw [List.length_append]; show st.chg.length + 1 ≤ j; omega)] at hx
      cases hx
theorem Gd.sync {st : DS} (h : Gd st) : Gd { st with sure := st.tab, chg := [] } :=
  ⟨h.T, h.T, fun c hc => absurd hc List.not_mem_nil, rfl, fun j c e => by simp at e⟩
section
variable {CD CC : Addr} {H H1 : Hp} {d : Addr} {st : DS} {p : DP}
theorem DkAt.setO (h : DkAt CD CC H d st p) {i : Nat} {c : Cn} {o : List Int} (hc : st.cs[i]? = some c) (k : ∀ a u, H a = some u → a ≠ p.las i → H1 a = some u) (e : H1 (p.las i) = some (.lst (o.map V.int))) : DkAt CD CC H1 d (st.setc i ⟨o, c.s⟩) p := by
  have hil : i < st.cs.length := (List.getElem?_eq_some_iff.mp hc).1
  obtain ⟨dxi, c1, c2⟩ := h.cts i c hc
  have nl : ∀ {a u}, H a = some u → (∀ xs, u ≠ .lst xs) → a ≠ p.las i := fun ha hu => ne_of ha c2 (hu _)
  have el : (st.setc i ⟨o, c.s⟩).cs.length = st.cs.length := List.length_set
  refine ⟨?_, k _ _ h.con (nl h.con fun _ z => nomatch z), k _ _ h.sur (nl h.sur fun _ z => nomatch z), ?_, fun j x hx => ?_, h.n1, fun j hj => h.n2 j (by rw [← el]; exact hj), fun a b ha hb => h.n3 a b (by rw [← el]; exact ha) (by rw [← el]; exact hb), fun a b ha hb => h.n4 a b (by rw [← el]; exact ha) (by rw [← el]; exact hb)⟩
  · obtain ⟨dx, e0⟩ := h.inst
    exact ⟨dx, k _ _ e0 (nl e0 fun _ z => nomatch z)⟩
  · obtain ⟨xs, e0, r⟩ := h.chs
    exact ⟨xs, k _ _ e0 (h.n2 i hil).symm, r.keep fun a r e => k _ _ e (nl e fun _ z => nomatch z)⟩
  · have hx : (st.cs.set i ⟨o, c.s⟩)[j]? = some x := hx
    rw [List.getElem?_set] at hx
    by_cases hij : i = j
    · subst hij
      rw [if_pos rfl, if_pos hil] at hx
      obtain rfl := Option.some.inj hx
      exact ⟨dxi, k _ _ c1 (nl c1 fun _ z => nomatch z), e⟩
    · rw [if_neg hij] at hx
      obtain ⟨dxj, d1, d2⟩ := h.cts j x hx
      have hjl : j < st.cs.length := (List.getElem?_eq_some_iff.mp hx).1
      exact ⟨dxj, k _ _ d1 (nl d1 fun _ z => nomatch z), k _ _ d2 fun z => hij (h.n3 j i hjl hil z).symm⟩
theorem DkAt.setS (h : DkAt CD CC H d st p) {i s : Nat} {c : Cn} {dx1 : Addr} (hc : st.cs[i]? = some c) (k : ∀ a u, H a = some u → a ≠ p.cas i → H1 a = some u) (e : H1 (p.cas i) = some (.ins CC dx1 [("octets", .ref (p.las i)), ("sure", .int (s : Int))])) : DkAt CD CC H1 d (st.setc i ⟨c.o, s⟩) p := by
  have hil : i < st.cs.length := (List.getElem?_eq_some_iff.mp hc).1
  obtain ⟨dxi, c1, c2⟩ := h.cts i c hc
  have nl : ∀ {a u}, H a = some u → (∀ C dx fs, u ≠ .ins C dx fs) → a ≠ p.cas i := fun ha hu => ne_of ha c1 (hu _ _ _)
  have el : (st.setc i ⟨c.o, s⟩).cs.length = st.cs.length := List.length_set
  refine ⟨?_, k _ _ h.con (nl h.con fun _ _ _ z => nomatch z), k _ _ h.sur (nl h.sur fun _ _ _ z => nomatch z), ?_, fun j x hx => ?_, h.n1, fun j hj => h.n2 j (by rw [← el]; exact hj), fun a b ha hb => h.n3 a b (by rw [← el]; exact ha) (by rw [← el]; exact hb), fun a b ha hb => h.n4 a b (by rw [← el]; exact ha) (by rw [← el]; exact hb)⟩
  · obtain ⟨dx, e0⟩ := h.inst
    exact ⟨dx, k _ _ e0 (ne_of e0 c1 (by intro z; cases z))⟩
  · obtain ⟨xs, e0, r⟩ := h.chs
    exact ⟨xs, k _ _ e0 (nl e0 fun _ _ _ z => nomatch z), r.keep fun a r e => k _ _ e (nl e fun _ _ _ z => nomatch z)⟩
  · have hx : (st.cs.set i ⟨c.o, s⟩)[j]? = some x := hx
    rw [List.getElem?_set] at hx
    by_cases hij : i = j
    · subst hij
      rw [if_pos rfl, if_pos hil] at hx
      obtain rfl := Option.some.inj hx
      exact ⟨dx1, e, k _ _ c2 (nl c2 fun _ _ _ z => nomatch z)⟩
    · rw [if_neg hij] at hx
      obtain ⟨dxj, d1, d2⟩ := h.cts j x hx
      have hjl : j < st.cs.length := (List.getElem?_eq_some_iff.mp hx).1
      exact ⟨dxj, k _ _ d1 fun z => hij (h.n4 j i hjl hil z).symm, k _ _ d2 (nl d2 fun _ _ _ z => nomatch z)⟩
theorem DkAt.addc (h : DkAt CD CC H d st p) (g : Gd st) {x l dxc : Addr} (hx : H x = some (.ins CC dxc [("octets", .ref l), ("sure", .int 0)])) (hl : H l = some (.lst [])) (fx : ¬ foot d p st.cs.length x) (fl : ¬ foot d p st.cs.length l) : DkAt CD CC H d st.addc (p.add st.cs.length x l) := by
  have cas : ∀ i, i < st.cs.length → (p.add st.cs.length x l).cas i = p.cas i := fun i hi => if_neg (Nat.ne_of_lt hi)
  have las : ∀ i, i < st.cs.length → (p.add st.cs.length x l).las i = p.las i := fun i hi => if_neg (Nat.ne_of_lt hi)
  have cn : (p.add st.cs.length x l).cas st.cs.length = x := if_pos rfl
  have ln : (p.add st.cs.length x l).las st.cs.length = l := if_pos rfl
  have el : st.addc.cs.length = st.cs.length + 1 := by
    show (st.cs ++ [_]).length = _
    rw [List.length_append]; rfl
  refine ⟨h.inst, ?_, ?_, ?_, fun j c hc => ?_, h.n1, fun j hj => ?_, fun i j hi hj e => ?_, fun i j hi hj e => ?_⟩
  · show H p.kd = some (.dK (mp _ st.tab))
    rw [mp_congr (g := fun i => V.ref ((p.add st.cs.length x l).cas i)) (h := fun i => V.ref (p.cas i)) g.T fun i hi => by show V.ref _ = V.ref _; rw [cas i hi]]
    exact h.con
  · show H p.sd = some (.dK (mp _ st.sure))
    rw [mp_congr (g := fun i => V.ref ((p.add st.cs.length x l).cas i)) (h := fun i => V.ref (p.cas i)) g.S fun i hi => by show V.ref _ = V.ref _; rw [cas i hi]]
    exact h.sur
  · obtain ⟨xs, e, r⟩ := h.chs
    refine ⟨xs, e, ?_⟩
    rw [show st.addc.chg.map (ctup (p.add st.cs.length x l).cas) = st.chg.map (ctup p.cas) from List.map_congr_left fun c hc => ctup_congr (g.C c hc) cas]
    exact r
  · have hc : (st.cs ++ [⟨[], 0⟩])[j]? = some c := hc
    rcases Nat.lt_trichotomy j st.cs.length with hj | hj | hj
    · rw [List.getElem?_append_left hj] at hc
      rw [cas j hj, las j hj]
      exact h.cts j c hc
    · subst hj
      rw [List.getElem?_append_right (Nat.le_refl _), Nat.sub_self] at hc
      obtain rfl := Option.some.inj hc
      rw [cn, ln]
      exact ⟨dxc, hx, hl⟩
    · rw [List.getElem?_eq_none (by rw [List.length_append]; show st.cs.length + 1 ≤ j; omega)] at hc
      cases hc
  · rw [el] at hj
    rcases Nat.lt_succ_iff_lt_or_eq.mp hj with q | q
    · rw [las j q]; exact h.n2 j q
    · rw [q, ln]
      intro z
      exact fl (.inr (.inr (.inr (.inl z))))
  · rw [el] at hi hj
    rcases Nat.lt_succ_iff_lt_or_eq.mp hi with a | a <;> rcases Nat.lt_succ_iff_lt_or_eq.mp hj with b | b
    · rw [las i a, las j b] at e; exact h.n3 i j a b e
    · rw [las i a, b, ln] at e
      exact absurd (.inr (.inr (.inr (.inr ⟨i, a, .inr e.symm⟩)))) fl
    · rw [las j b, a, ln] at e
      exact absurd (.inr (.inr (.inr (.inr ⟨j, b, .inr e⟩)))) fl
    · omega
  · rw [el] at hi hj
    rcases Nat.lt_succ_iff_lt_or_eq.mp hi with a | a <;> rcases Nat.lt_succ_iff_lt_or_eq.mp hj with b | b
    · rw [cas i a, cas j b] at e; exact h.n4 i j a b e
    · rw [cas i a, b, cn] at e
      exact absurd (.inr (.inr (.inr (.inr ⟨i, a, .inl e.symm⟩)))) fx
    · rw [cas j b, a, cn] at e
      exact absurd (.inr (.inr (.inr (.inr ⟨j, b, .inl e⟩)))) fx
    · omega
theorem DkAt.chgd (h : DkAt CD CC H d st p) {c : Cg} {xs : List V} {t : Addr} (k : ∀ a u, H a = some u → a ≠ p.kd → a ≠ p.cl → H1 a = some u) (hk : H1 p.kd = some (.dK (mp (fun i => .ref (p.cas i)) (mv st.tab c))))
    (hr : Rows H xs (st.chg.map (ctup p.cas))) (hc : H1 p.cl = some (.lst (xs ++ [.ref t]))) (ht : H1 t = some (.tup (ctup p.cas c))) : DkAt CD CC H1 d (st.chgd c) p := by
  obtain ⟨xs0, e0, _⟩ := h.chs
  have nk : ∀ {a u}, H a = some u → (∀ z, u ≠ .dK z) → a ≠ p.kd := fun ha hu => ne_of ha h.con (hu _)
  have nl : ∀ {a u}, H a = some u → (∀ z, u ≠ .lst z) → a ≠ p.cl := fun ha hu => ne_of ha e0 (hu _)
  refine ⟨?_, hk, k _ _ h.sur h.n1.symm (nl h.sur fun _ z => nomatch z), ?_, fun i c0 h0 => ?_, h.n1, h.n2, h.n3, h.n4⟩
  · obtain ⟨dx, e⟩ := h.inst
    exact ⟨dx, k _ _ e (nk e fun _ z => nomatch z) (nl e fun _ z => nomatch z)⟩
  · refine ⟨_, hc, ?_⟩
    show Rows H1 _ ((st.chg ++ [c]).map (ctup p.cas))
    rw [List.map_append]
    exact (hr.keep fun a r e => k _ _ e (nk e fun _ z => nomatch z) (nl e fun _ z => nomatch z)).push ht
  · obtain ⟨dx, c1, c2⟩ := h.cts i c0 h0
    exact ⟨dx, k _ _ c1 (nk c1 fun _ z => nomatch z) (nl c1 fun _ z => nomatch z), k _ _ c2 (nk c2 fun _ z => nomatch z) (h.n2 i (List.getElem?_eq_some_iff.mp h0).1)⟩
end
section
variable {P : Program} {w : World} {K : PySem.W.Frag} {mg : Str → Option Value} {base : Heap}
def spBegin (CD CC CE : Addr) : Sp := fun vs H Q E => ∃ (d : Addr) (st : DS) (p : DP), vs = [.ref d] ∧ DkAt CD CC H d st p ∧ (st.lim ≠ some 0 → ∀ H', (∀ a o, H a = some o → a ≠ d → H' a = some o) → DkAt CD CC H' d st.tick p → Q .non H') ∧
  (st.lim = some 0 → ∀ H' x, Same H H' → H x = none → H' x = some (errD st.done) → E (.ref CE) (some x) H')
theorem scBegin : FnScope ["self"] ["self"] (defScope sDiskBeginDeed) := ⟨rfl, rfl, rfl, by decide +kernel, rfl, by decide +kernel, by decide +kernel⟩
theorem ok_begin {f fI fE CD CC CE : Addr} {fd fdE : FuncData} (F : Fun K "_begin_deed" "Disk._begin_deed" sDiskBeginDeed f fd) (T : KC K CD fI CDf) (FE : Fun K "__init__" "ManysidesError.__init__" sInit fE fdE) (bE : Binds K fdE ["self", "place"] []) (E0 : ErrC K CE fE "PowerLost") (gE : mg "PowerLost" = some (.ref CE)) :
    FnOk P w K mg base (L2.CX P w) 3 f fd ["self"] (spBegin CD CC CE) := by
  have GE : FnOk P w K mg base CX0 1 fE fdE ["self", "place"] (spInit K fE) := ok_init FE
  refine F.okX scBegin (fun vs H Q E h => ?_) (fun cdv A outer s H vs Q E hr h => ?_)
  · obtain ⟨d, st, p, rfl, _⟩ := h
    rfl
  · obtain ⟨d, st, p, rfl, hd, q, qe⟩ := h
    have hr1 := hr.mono (j := 2) (by decide)
    obtain ⟨dx, hi⟩ := hd.inst'
    refine ⟨_, pss_cons (ps_if (pt_cmpR op_eq (pe_fld (pv 0) rfl) pe_int (nomark _)) (pss_one (ps_raise rfl (takes_of rfl rfl rfl rfl) (pmk_oex E0.oc E0.iC E0.tI GE hr1 bE .nil pass0 (by rfl) gE (pa_cons (pe_fld (pv 0) rfl) pa_nil)))) pss_nil)
      (Evl.pss_cut (ps_if (pt_cmpR op_notN (pe_fld (pv 0) rfl) pe_non (nomark _)) (pss_one (ps_fldaug (pv 0) pe_int in_sub)) pss_nil)
      (pss_one (ps_fldaug (pv 0) pe_int in_add))), ?_⟩
    refine ⟨_, rfl, d, CD, dx, _, limV st.lim, rfl, hi, T.cl, T.na _ (by decide +kernel), rfl, ?_⟩
    cases hlim : st.lim with
    | none =>
      rw [hlim] at hi
      refine ⟨rfl, _, rfl, iteF ⟨fun σ H1 => σ = [some (.ref d)] ∧ H1 = H, ?_, ?_⟩⟩
      · exact ⟨_, rfl, d, CD, dx, _, .non, rfl, hi, T.cl, T.na _ (by decide +kernel), rfl, rfl, _, rfl, iteF ⟨rfl, rfl⟩⟩
      · rintro σ H1 ⟨rfl, rfl⟩
        refine ⟨_, rfl, d, CD, dx, _, .int (st.done : Int), rfl, hi, T.cl, T.na _ (by decide +kernel), rfl, (st.done : Int), 1, rfl, rfl, dx, _, hi, (by show 5 < 1000; decide), ?_⟩
        refine q (by rw [hlim]; exact fun z => nomatch z) _ (fun a o h n => by rw [upd_ne n]; exact h) ?_
        have := hd.fld (l := none) (n := st.done + 1) (dx := dx) (H1 := upd H1 d (.ins CD dx (dfs p none (st.done + 1)))) (fun a o h n => by rw [upd_ne n]; exact h) upd_same
        unfold DS.tick
        rw [hlim]
        exact this
    | some n =>
      rw [hlim] at hi
      cases n with
      | zero =>
        refine ⟨rfl, _, rfl, iteT ?_⟩
        refine ⟨_, rfl, d, CD, dx, _, .int (st.done : Int), rfl, hi, T.cl, T.na _ (by decide +kernel), rfl, (by show 1 ≤ 1000; decide), fun e0 ne => ⟨e0, CE, "PowerLost", _, rfl, E0, upd_same, fun dy ndx nde => ⟨rfl, dy, [("name", .str "PowerLost"), ("place", .int (st.done : Int))], ?_, upd_same, ?_, ?_⟩⟩⟩
        · rw [upd_ne nde.symm, upd_same]
        · rw [upd_ne nde] at ndx
          exact ndx
        · rw [upd_ne nde] at ndx
          exact qe hlim _ dy (same_err (Same.refl H) ne ndx) ndx upd_same
      | succ n =>
        refine ⟨rfl, _, rfl, iteBF (decide_eq_false fun z => by have := V.int.inj z; omega) ⟨fun σ H1 => σ = [some (.ref d)] ∧ H1 = upd H d (.ins CD dx (dfs p (some n) st.done)), ?_, ?_⟩⟩
        · refine ⟨_, rfl, d, CD, dx, _, .int ((n + 1 : Nat) : Int), rfl, hi, T.cl, T.na _ (by decide +kernel), rfl, rfl, _, rfl, iteT ?_⟩
          refine ⟨_, rfl, d, CD, dx, _, .int ((n + 1 : Nat) : Int), rfl, hi, T.cl, T.na _ (by decide +kernel), rfl, ((n + 1 : Nat) : Int), 1, rfl, rfl, dx, _, hi, (by show 5 < 1000; decide), rfl, ?_⟩
          rw [show (((n + 1 : Nat) : Int) - 1) = (n : Int) from by omega]
          rfl
        · rintro σ H1 ⟨rfl, rfl⟩
          have hi2 : (upd H d (.ins CD dx (dfs p (some n) st.done))) d = some (.ins CD dx [("_contents", .ref p.kd), ("_sure_contents", .ref p.sd), ("_changes", .ref p.cl), ("_allowed", limV (some n)), ("_done", .int (st.done : Int))]) := upd_same
          refine ⟨_, rfl, d, CD, dx, _, .int (st.done : Int), rfl, hi2, T.cl, T.na _ (by decide +kernel), rfl, (st.done : Int), 1, rfl, rfl, dx, _, hi2, (by show 5 < 1000; decide), ?_⟩
          refine q (by rw [hlim]; exact fun z => by injection z with z; exact absurd z (Nat.succ_ne_zero n)) _ (fun a o h m => by rw [upd_ne m, upd_ne m]; exact h) ?_
          have := hd.fld (l := some n) (n := st.done + 1) (dx := dx) (H1 := upd (upd H d (.ins CD dx (dfs p (some n) st.done))) d (.ins CD dx (dfs p (some n) (st.done + 1)))) (fun a o h m => by rw [upd_ne m, upd_ne m]; exact h) upd_same
          unfold DS.tick
          rw [hlim]
          exact this
end
end K2

namespace K2
open PySem L2
theorem tget_put (t : Tb) (n : Str) (i : Nat) : tget (tput t n i) n = some i := by
  have h1 := mp_get (fun i => V.int (i : Int)) (tput t n i) n
  rw [← mp_put (fun i => V.int (i : Int)) t n i, valV_put, if_pos rfl] at h1
  cases e : tget (tput t n i) n with
  | none => rw [e] at h1; cases h1
  | some j =>
    rw [e] at h1
    have := V.int.inj (Option.some.inj h1)
    rw [show i = j by omega]
theorem foot_add {d x l a : Addr} {p : DP} {n : Nat} (h : foot d (p.add n x l) (n + 1) a) : foot d p n a ∨ a = x ∨ a = l := by
  rcases h with h | h | h | h | ⟨i, hi, h⟩
  · exact .inl (.inl h)
  · exact .inl (.inr (.inl h))
  · exact .inl (.inr (.inr (.inl h)))
  · exact .inl (.inr (.inr (.inr (.inl h))))
  · rcases Nat.lt_succ_iff_lt_or_eq.mp hi with g | g
    · have e1 : (p.add n x l).cas i = p.cas i := if_neg (Nat.ne_of_lt g)
      have e2 : (p.add n x l).las i = p.las i := if_neg (Nat.ne_of_lt g)
      rw [e1, e2] at h
      exact .inl (.inr (.inr (.inr (.inr ⟨i, g, h⟩))))
    · have e1 : (p.add n x l).cas i = x := if_pos g
      have e2 : (p.add n x l).las i = l := if_pos g
      rw [e1, e2] at h
      exact .inr h
def DS.app (st : DS) (n : Str) (os : List Int) : DS := match tget st.tab n with
  | none => (st.addc.chgd (.make n st.cs.length)).setc st.cs.length ⟨os, 0⟩
  | some i => match st.cs[i]? with
    | some c => st.setc i ⟨c.o ++ os, c.s⟩
    | none => st
theorem out_d {H H1 : Hp} {d : Addr} {p : DP} {n : Nat} (k : ∀ a o, H a = some o → a ≠ d → H1 a = some o) : Out (foot d p n) H H1 := fun c o h nf => k c o h fun z => nf (.inl z)
theorem setc_len (st : DS) (i : Nat) (c : Cn) : (st.setc i c).cs.length = st.cs.length := List.length_set
section
variable {P : Program} {w : World} {K : PySem.W.Frag} {mg : Str → Option Value} {base : Heap}
def spChange (CD CC : Addr) : Sp := fun vs H Q _ => ∃ (d : Addr) (st : DS) (p : DP) (c : Cg), vs = .ref d :: ctup p.cas c ∧ DkAt CD CC H d st p ∧ okC st.tab c ∧ st.tab.length ≤ 1000 ∧ st.chg.length ≤ 1000 ∧
  ∀ H', (∀ a o, H a = some o → a ≠ p.kd → a ≠ p.cl → H' a = some o) → DkAt CD CC H' d (st.chgd c) p → Q .non H'
theorem scChange : FnScope ["self", "old", "new", "content"] ["self", "old", "new", "content"] (defScope sDiskChange) := ⟨rfl, rfl, rfl, by decide +kernel, rfl, by decide +kernel, by decide +kernel⟩
theorem ctup3 (cas : Nat → Addr) (c : Cg) : ∃ x y z, ctup cas c = [x, y, z] := by
  cases c with
  | make n i => exact ⟨_, _, _, rfl⟩
  | ren a b i => exact ⟨_, _, _, rfl⟩
  | rem a => exact ⟨_, _, _, rfl⟩
theorem ok_change {f fI fC CD CC : Addr} {fd fdC : FuncData} (F : Fun K "_change" "Disk._change" sDiskChange f fd) (T : KC K CD fI CDf) (FC : Fun K "change_names" "change_names" sChangeNames fC fdC) (bC : Binds K fdC ["contents", "change"] []) (gC : mg "change_names" = some (.ref fC)) :
    FnOk P w K mg base CX0 2 f fd ["self", "old", "new", "content"] (spChange CD CC) := by
  have GC : FnOk P w K mg base CX0 1 fC fdC ["contents", "change"] spCN := ok_cn FC
  refine F.ok scChange (fun vs H Q E h => ?_) (fun cdv A outer s H vs Q E hr h => ?_)
  · obtain ⟨d, st, p, c, rfl, _⟩ := h
    obtain ⟨x, y, z, e⟩ := ctup3 p.cas c
    rw [e]
    rfl
  · obtain ⟨d, st, p, c, rfl, hd, ok, ht, hcl, q⟩ := h
    obtain ⟨x, y, z, e⟩ := ctup3 p.cas c
    rw [e]
    refine ⟨_, pss_cons (ps_expr (pe_bm PySem.F.plainAttrs_list PySem.F.slot_list_append PySem.F.type_list_append mt_append (pe_fld (pv 0) rfl) (pa_cons (pe_tup (pa_cons (pv 1) (pa_cons (pv 2) (pa_cons (pv 3) pa_nil)))) pa_nil)))
      (pss_one (ps_expr (pe_call GC hr (by rfl) gC FC.kp bC .nil pass0 (pa_cons (pe_fld (pv 0) rfl) (pa_cons (pe_tup (pa_cons (pv 1) (pa_cons (pv 2) (pa_cons (pv 3) pa_nil)))) pa_nil))))), ?_⟩
    obtain ⟨dx, hi⟩ := hd.inst'
    obtain ⟨xs, hx, hrow⟩ := hd.chs
    refine ⟨_, rfl, d, CD, dx, _, .ref p.cl, rfl, hi, T.cl, T.na _ (by decide +kernel), rfl, .inl ⟨rfl, _, .inl (.inl hx)⟩, _, rfl, _, rfl, _, rfl, (by show 3 ≤ sizeLine; decide), fun t nt => ?_⟩
    have ncl : p.cl ≠ t := ne_of_none hx nt
    refine ⟨p.cl, xs, _, rfl, rfl, by rw [upd_ne ncl]; exact hx, ?_, ?_⟩
    · have := hrow.1
      rw [List.length_map] at this
      exact small1000 (by omega)
    · have hxd : d ≠ p.cl := ne_of hi hx (by intro z; cases z)
      have hkc : p.kd ≠ p.cl := ne_of hd.con hx (by intro z; cases z)
      have hkt : p.kd ≠ t := ne_of_none hd.con nt
      refine ⟨_, rfl, d, CD, dx, _, .ref p.kd, rfl, by rw [upd_ne hxd, upd_ne (ne_of_none hi nt)]; exact hi, T.cl, T.na _ (by decide +kernel), rfl, _, rfl, _, rfl, _, rfl, (by show 3 ≤ sizeLine; decide), fun t2 nt2 => ?_⟩
      have nt3 : t2 ≠ p.cl := fun z => by rw [z, upd_same] at nt2; cases nt2
      have nt4 : t2 ≠ t := fun z => by rw [z, upd_ne ncl.symm, upd_same] at nt2; cases nt2
      have nt5 : H t2 = none := by
        rw [upd_ne nt3, upd_ne nt4] at nt2
        exact nt2
      have hkt2 : p.kd ≠ t2 := ne_of_none hd.con nt5
      refine ⟨p.kd, t2, p.cas, st.tab, c, rfl, by rw [upd_same, e], by rw [upd_ne hkt2, upd_ne hkc, upd_ne hkt]; exact hd.con, ok, ht, fun H2 k hk => ?_⟩
      have k2 : ∀ a o, H a = some o → a ≠ p.kd → a ≠ p.cl → H2 a = some o := fun a o h n1 n2 => k a o (by rw [upd_ne (ne_of_none h nt5), upd_ne n2, upd_ne (ne_of_none h nt)]; exact h) n1
      refine q H2 k2 (hd.chgd (t := t) k2 hk hrow (k _ _ (by rw [upd_ne nt3.symm, upd_same]) hkc.symm) ?_)
      rw [e]
      exact k _ _ (by rw [upd_ne nt4.symm, upd_ne ncl.symm, upd_same]) hkt.symm
/-! append -/
def spAppend (CD CC CE : Addr) : Sp := fun vs H Q E => ∃ (d l : Addr) (st : DS) (p : DP) (n : Str) (os : List Int), vs = [.ref d, .str n, .ref l] ∧ DkAt CD CC H d st p ∧ Gd st ∧ H l = some (.lst (os.map V.int)) ∧ ¬ foot d p st.cs.length l ∧ n ∈ NM ∧ (∀ c ∈ st.cs, c.o.length ≤ 900) ∧ os.length ≤ 90 ∧ st.chg.length ≤ 900 ∧
  (st.lim ≠ some 0 → ∀ H' p', Out (foot d p st.cs.length) H H' → Gw (foot d p st.cs.length) (foot d p' (st.tick.app n os).cs.length) H → DkAt CD CC H' d (st.tick.app n os) p' → Gd (st.tick.app n os) → Q .non H') ∧
  (st.lim = some 0 → ∀ H' x, Same H H' → H x = none → H' x = some (errD st.done) → E (.ref CE) (some x) H')
theorem scAppend : FnScope ["self", "name", "octets"] ["self", "name", "octets"] (defScope sDiskAppend) := ⟨rfl, rfl, rfl, by decide +kernel, rfl, by decide +kernel, by decide +kernel⟩
theorem ok_append {f fI fC fB fG CD CC CE : Addr} {fd fdC fdB fdG : FuncData} (F : Fun K "append" "Disk.append" sDiskAppend f fd) (N : Nm mg) (T : KC K CD fI CDf) (TC : KC K CC fC CCf) (FC : Fun K "__init__" "Content.__init__" sContentInit fC fdC) (bC : Binds K fdC ["self", "octets"] []) (gCC : mg "Content" = some (.ref CC))
    (GB : FnOk P w K mg base (L2.CX P w) 3 fB fdB ["self"] (spBegin CD CC CE)) (bB : Binds K fdB ["self"] []) (mB : Meth K CD "_begin_deed" fB) (GG : FnOk P w K mg base CX0 2 fG fdG ["self", "old", "new", "content"] (spChange CD CC)) (bG : Binds K fdG ["self", "old", "new", "content"] []) (mG : Meth K CD "_change" fG) :
    FnOk P w K mg base (L2.CX P w) 4 f fd ["self", "name", "octets"] (spAppend CD CC CE) := by
  have GCI : FnOk P w K mg base CX0 1 fC fdC ["self", "octets"] (spCInit CC) := ok_cInit FC N TC
  have GB' : FnOk P w K mg base (L2.CX P w) 3 fB fdB ["self"] (spBegin CD CC CE) := GB
  refine F.okX scAppend (fun vs H Q E h => ?_) (fun cdv A outer s H vs Q E hr h => ?_)
  · obtain ⟨d, l, st, p, n, os, rfl, _⟩ := h
    rfl
  · obtain ⟨d, l, st, p, n, os, rfl, hd, gd, hl, nfl, hn, hco, hos, hch, q, qe⟩ := h
    have hr2 := hr.mono (j := 2) (by decide)
    have hu := hu_of hr
    refine ⟨_, pss_cons (ps_expr (pe_methX0 (pv 0) T.cl mB GB' hr bB (fun σ => passAt (takes_of rfl rfl rfl rfl) σ)))
      (Evl.pss_cut (ps_if (pt_cmp (pc_dnotin hu (pv 1) (pe_fld (pv 0) rfl))) (pss_one (ps_expr (pe_meth (pv 0) T.cl mG GG hr2 bG .nil pass0 (pa_cons pe_non (pa_cons (pv 1) (pa_cons (pe_make TC.mkC GCI hr2 (by rfl) gCC bC .nil pass0 (pa_cons (pe_lst pa_nil) pa_nil)) pa_nil)))))) pss_nil)
      (pss_one (ps_expr (pe_bm PySem.F.plainAttrs_list PySem.F.slot_list_extend PySem.F.type_list_extend mt_extend (pe_fld (pe_dget hu (pe_fld (pv 0) rfl) (pv 1) (fun _ _ => rfl)) rfl) (pa_cons (pe_callTy call_list_of (by rfl) N.list (by decide +kernel) (pa_cons (pv 2) pa_nil)) pa_nil))))), ?_⟩
    obtain ⟨dx, hi⟩ := hd.inst'
    refine ⟨_, rfl, d, dx, _, rfl, hi, rfl, d, st, p, rfl, hd, fun hlim H1 k1 hd1 => ?_, fun hlim H1 x s1 nx hx => qe hlim H1 x s1 nx hx⟩
    have o1 : Out (foot d p st.cs.length) H H1 := out_d k1
    have gt : Gd st.tick := gd.tick
    have hl1 : H1 l = some (.lst (os.map V.int)) := o1 _ _ hl nfl
    refine ⟨fun σ H4 => σ = [some (.ref d), some (.str n), some (.ref l)] ∧ ∃ (p' : DP) (st' : DS) (i : Nat) (c : Cn), DkAt CD CC H4 d st' p' ∧ Gd st' ∧ tget st'.tab n = some i ∧ st'.cs[i]? = some c ∧ st'.setc i ⟨c.o ++ os, c.s⟩ = st.tick.app n os ∧
      Out (foot d p st.cs.length) H H4 ∧ Gw (foot d p st.cs.length) (foot d p' st'.cs.length) H ∧ H4 l = some (.lst (os.map V.int)) ∧ c.o.length ≤ 900, ?_, ?_⟩
    · obtain ⟨dx1, hi1⟩ := hd1.inst'
      have hg := hd1.get n
      refine ⟨_, rfl, _, rfl, d, CD, dx1, _, .ref p.kd, rfl, hi1, T.cl, T.na _ (by decide +kernel), rfl, p.kd, _, rfl, hg, _, rfl, ?_⟩
      cases e : tget st.tick.tab n with
      | some i =>
        have hil : i < st.cs.length := gd.T.ix _ (tget_mem e)
        refine iteF ⟨rfl, p, st.tick, i, st.cs[i], hd1, gt, e, List.getElem?_eq_getElem hil, ?_, o1, Gw.refl, hl1, hco _ (List.getElem_mem hil)⟩
        unfold DS.app
        rw [e]
        show _ = match st.cs[i]? with | some c => st.tick.setc i ⟨c.o ++ os, c.s⟩ | none => st.tick
        rw [List.getElem?_eq_getElem hil]
      | none =>
        refine iteT ⟨_, rfl, d, dx1, _, rfl, hi1, rfl, _, rfl, Nat.zero_le _, fun l0 nl0 => ?_⟩
        intro x dxc nx ndx nex
        have s0 := same_new (o := .lst []) nl0
        have nxl : l0 ≠ x := ne_of_none upd_same nx
        have nxd : l0 ≠ dxc := ne_of_none upd_same ndx
        refine ⟨x, dxc, l0, [], rfl, upd_same, by rw [upd_ne nxl, upd_ne nxd, upd_same], fun H3 k3 hx3 => ⟨rfl, ?_⟩⟩
        have s03 : Same (upd H1 l0 (.lst [])) H3 := mk_same nx ndx k3
        have s13 : Same H1 H3 := s0.trans s03
        have nx1 : H1 x = none := s0.free nx
        have hd3 := hd1.same s13
        have hl03 : H3 l0 = some (.lst []) := s03 _ _ upd_same
        have hda := hd3.addc gt hx3 hl03 (hd1.nfree nx1) (hd1.nfree nl0)
        have ga := gt.addc
        have cx : (p.add st.cs.length x l0).cas st.cs.length = x := if_pos rfl
        refine ⟨d, st.tick.addc, p.add st.cs.length x l0, .make n st.cs.length, ?_, hda, trivial, (by show st.tab.length ≤ 1000; have := gd.T.len; omega), (by show st.chg.length ≤ 1000; omega), fun H4 k4 hd4 => ⟨rfl, ?_⟩⟩
        · show [V.ref d, .non, .str n, .ref x] = [V.ref d, .non, .str n, .ref ((p.add st.cs.length x l0).cas st.cs.length)]
          rw [cx]
        have lel : st.tick.addc.cs.length = st.cs.length + 1 := by
          show (st.cs ++ [_]).length = _
          rw [List.length_append]; rfl
        have o13 : Out (foot d p st.cs.length) H H3 := fun c o h nf => s13 _ _ (o1 c o h nf)
        have o14 : Out (foot d p st.cs.length) H H4 := fun c o h nf => k4 c o (o13 c o h nf) (fun z => nf (.inr (.inl z))) (fun z => nf (.inr (.inr (.inr (.inl z)))))
        have fr : ∀ {a}, H1 a = none → H a = none := fun {a} h => o1.free (fun c f => by
          obtain ⟨o, e, _⟩ := hd1.occ f
          rw [e]
          exact fun z => nomatch z) h
        refine ⟨p.add st.cs.length x l0, st.tick.addc.chgd (.make n st.cs.length), st.cs.length, ⟨[], 0⟩, hd4, ga.chgd trivial ⟨hn, by rw [lel]; exact Nat.lt_succ_self _⟩, tget_put _ _ _, ?_, ?_, o14, fun a h => ?_, ?_, (by show 0 ≤ 900; decide)⟩
        · show (st.cs ++ [_])[st.cs.length]? = _
          rw [List.getElem?_append_right (Nat.le_refl _), Nat.sub_self]
          rfl
        · unfold DS.app
          rw [e]
          rfl
        · have h : foot d (p.add st.cs.length x l0) st.tick.addc.cs.length a := h
          rw [lel] at h
          rcases foot_add h with z | z | z
          · exact .inl z
          · exact .inr (by rw [z]; exact fr nx1)
          · exact .inr (by rw [z]; exact fr nl0)
        · exact o14 _ _ hl nfl
    · rintro σ H4 ⟨rfl, p', st', i, c, hd4, g4, ht4, hc4, e4, o4, w4, hl4, hcl⟩
      obtain ⟨dx4, hi4⟩ := hd4.inst'
      have hg := hd4.get n
      rw [ht4] at hg
      obtain ⟨dxi, c1, c2⟩ := hd4.cts i c hc4
      have hil : i < st'.cs.length := (List.getElem?_eq_some_iff.mp hc4).1
      refine ⟨_, rfl, d, CD, dx4, _, .ref p'.kd, rfl, hi4, T.cl, T.na _ (by decide +kernel), rfl, _, rfl, p'.kd, .ref (p'.cas i), rfl, hg, p'.cas i, CC, dxi, _, .ref (p'.las i), rfl, c1, TC.cl, TC.na _ (by decide +kernel), rfl, .inl ⟨rfl, _, .inl (.inl c2)⟩, _, rfl, l, _, rfl, .inl (.inl (.inl hl4)), fun l2 nl2 => ?_⟩
      have nl3 : p'.las i ≠ l2 := ne_of_none c2 nl2
      refine ⟨p'.las i, l2, _, _, rfl, rfl, by rw [upd_ne nl3]; exact c2, upd_same, ?_, ?_⟩
      · rw [List.length_map, List.length_map]
        exact Nat.le_of_lt (small1000 (by omega))
      · have hset := hd4.setO (H1 := upd (upd H4 l2 (.lst (os.map V.int))) (p'.las i) (.lst (c.o.map V.int ++ os.map V.int))) (o := c.o ++ os) hc4 (fun a u h m => by rw [upd_ne m, upd_ne (ne_of_none h nl2)]; exact h) (by rw [upd_same, List.map_append])
        have gs := g4.setc i ⟨c.o ++ os, c.s⟩
        rw [e4] at hset gs
        refine q hlim _ p' ?_ ?_ hset gs
        · refine (fun a o h nf => ?_)
          have h4 := o4 a o h nf
          have m : a ≠ p'.las i := fun z => by
            rcases w4 a (.inr (.inr (.inr (.inr ⟨i, hil, .inr z⟩)))) with y | y
            · exact nf y
            · rw [y] at h; cases h
          rw [upd_ne m, upd_ne (ne_of_none h4 nl2)]
          exact h4
        · rw [← e4, setc_len]
          exact w4
end
end K2

namespace K2
open PySem L2
theorem DkAt.nf {CD CC : Addr} {H : Hp} {d : Addr} {st : DS} {p : DP} (h : DkAt CD CC H d st p) {c : Addr} (f : foot d p st.cs.length c) : H c ≠ none := by
  obtain ⟨o, e, _⟩ := h.occ f
  rw [e]
  exact fun z => nomatch z
section
variable {P : Program} {w : World} {K : PySem.W.Frag} {mg : Str → Option Value} {base : Heap}
/-- what a deed that changes no address's place asks of what comes after -/
def AftE (CD CC CE : Addr) (d : Addr) (st st' : DS) (p : DP) (H : Hp) (Q : VK) (E : XK) : Prop :=
  (st.lim ≠ some 0 → ∀ H' p', Out (foot d p st.cs.length) H H' → Gw (foot d p st.cs.length) (foot d p' st'.cs.length) H → DkAt CD CC H' d st' p' → Gd st' → Q .non H') ∧
  (st.lim = some 0 → ∀ H' x, Same H H' → H x = none → H' x = some (errD st.done) → E (.ref CE) (some x) H')
def spSync (CD CC CE : Addr) : Sp := fun vs H Q E => ∃ (d : Addr) (st : DS) (p : DP) (n : Str) (i : Nat) (c : Cn), vs = [.ref d, .str n] ∧ DkAt CD CC H d st p ∧ Gd st ∧ tget st.tab n = some i ∧ st.cs[i]? = some c ∧
  AftE CD CC CE d st (st.tick.setc i ⟨c.o, c.o.length⟩) p H Q E
theorem scSync : FnScope ["self", "name", "content"] ["self", "name"] (defScope sDiskSync) := ⟨rfl, rfl, rfl, by decide +kernel, rfl, by decide +kernel, by decide +kernel⟩
theorem ok_sync {f fI fC fB CD CC CE : Addr} {fd fdB : FuncData} (F : Fun K "sync" "Disk.sync" sDiskSync f fd) (N : Nm mg) (T : KC K CD fI CDf) (TC : KC K CC fC CCf)
    (GB : FnOk P w K mg base (L2.CX P w) 3 fB fdB ["self"] (spBegin CD CC CE)) (bB : Binds K fdB ["self"] []) (mB : Meth K CD "_begin_deed" fB) : FnOk P w K mg base (L2.CX P w) 4 f fd ["self", "name"] (spSync CD CC CE) := by
  refine F.okX scSync (fun vs H Q E h => ?_) (fun cdv A outer s H vs Q E hr h => ?_)
  · obtain ⟨d, st, p, n, i, c, rfl, _⟩ := h
    rfl
  · obtain ⟨d, st, p, n, i, c, rfl, hd, gd, ht, hc, q, qe⟩ := h
    have hu := hu_of hr
    refine ⟨_, pss_cons (ps_expr (pe_methX0 (pv 0) T.cl mB GB hr bB (fun σ => passAt (takes_of rfl rfl rfl rfl) σ)))
      (pss_cons (ps_set (i := 2) scSync.nd rfl (.inl rfl) (pe_dget hu (pe_fld (pv 0) rfl) (pv 1) (fun _ _ => rfl)))
      (pss_one (ps_fld (pv 2) (pe_callB call_len_seq (by rfl) N.len PySem.boot_len (pa_cons (pe_fld (pv 2) rfl) pa_nil)) rfl))), ?_⟩
    obtain ⟨dx, hi⟩ := hd.inst'
    refine ⟨_, rfl, d, dx, _, rfl, hi, rfl, d, st, p, rfl, hd, fun hlim H1 k1 hd1 => ?_, fun hlim H1 x s1 nx hx => qe hlim H1 x s1 nx hx⟩
    obtain ⟨dx1, hi1⟩ := hd1.inst'
    have hg := hd1.get n
    rw [show tget st.tick.tab n = some i from ht] at hg
    obtain ⟨dxi, c1, c2⟩ := hd1.cts i c hc
    refine ⟨_, rfl, d, CD, dx1, _, .ref p.kd, rfl, hi1, T.cl, T.na _ (by decide +kernel), rfl, _, rfl, p.kd, .ref (p.cas i), rfl, hg, ?_⟩
    refine ⟨_, rfl, p.cas i, CC, dxi, _, .ref (p.las i), rfl, c1, TC.cl, TC.na _ (by decide +kernel), rfl, p.las i, _, rfl, .inl (.inl (.inl c2)), _, rfl, p.cas i, CC, dxi, _, rfl, c1, TC.cl, TC.na _ (by decide +kernel), (by show 2 < 1000; decide), ?_⟩
    have hil : i < st.cs.length := (List.getElem?_eq_some_iff.mp hc).1
    have hs := hd1.setS (s := c.o.length) (dx1 := dxi) (H1 := upd H1 (p.cas i) (.ins CC dxi [("octets", .ref (p.las i)), ("sure", .int (c.o.length : Int))])) hc (fun a u h m => by rw [upd_ne m]; exact h) upd_same
    rw [List.length_map]
    refine q hlim _ p (fun a o h nf => ?_) ?_ hs (gd.tick.setc _ _)
    · have m : a ≠ p.cas i := fun z => nf (.inr (.inr (.inr (.inr ⟨i, hil, .inl z⟩))))
      rw [upd_ne m]
      exact k1 a o h fun z => nf (.inl z)
    · rw [setc_len]
      exact Gw.refl
def spRename (CD CC CE : Addr) : Sp := fun vs H Q E => ∃ (d : Addr) (st : DS) (p : DP) (a b : Str) (i : Nat), vs = [.ref d, .str a, .str b] ∧ DkAt CD CC H d st p ∧ Gd st ∧ tget st.tab a = some i ∧ b ∈ NM ∧ st.chg.length ≤ 900 ∧
  AftE CD CC CE d st (st.tick.chgd (.ren a b i)) p H Q E
theorem scRename : FnScope ["self", "old", "new"] ["self", "old", "new"] (defScope sDiskRename) := ⟨rfl, rfl, rfl, by decide +kernel, rfl, by decide +kernel, by decide +kernel⟩
theorem chg_out {H H1 H2 : Hp} {d : Addr} {p : DP} {n : Nat} (k1 : ∀ a o, H a = some o → a ≠ d → H1 a = some o) (k2 : ∀ a o, H1 a = some o → a ≠ p.kd → a ≠ p.cl → H2 a = some o) : Out (foot d p n) H H2 := fun a o h nf =>
  k2 a o (k1 a o h fun z => nf (.inl z)) (fun z => nf (.inr (.inl z))) (fun z => nf (.inr (.inr (.inr (.inl z)))))
theorem ok_rename {f fI fB fG CD CC CE : Addr} {fd fdB fdG : FuncData} (F : Fun K "rename" "Disk.rename" sDiskRename f fd) (T : KC K CD fI CDf)
    (GB : FnOk P w K mg base (L2.CX P w) 3 fB fdB ["self"] (spBegin CD CC CE)) (bB : Binds K fdB ["self"] []) (mB : Meth K CD "_begin_deed" fB) (GG : FnOk P w K mg base CX0 2 fG fdG ["self", "old", "new", "content"] (spChange CD CC)) (bG : Binds K fdG ["self", "old", "new", "content"] []) (mG : Meth K CD "_change" fG) :
    FnOk P w K mg base (L2.CX P w) 4 f fd ["self", "old", "new"] (spRename CD CC CE) := by
  refine F.okX scRename (fun vs H Q E h => ?_) (fun cdv A outer s H vs Q E hr h => ?_)
  · obtain ⟨d, st, p, a, b, i, rfl, _⟩ := h
    rfl
  · obtain ⟨d, st, p, a, b, i, rfl, hd, gd, ht, hb, hch, q, qe⟩ := h
    have hu := hu_of hr
    have hr2 := hr.mono (j := 2) (by decide)
    refine ⟨_, pss_cons (ps_expr (pe_methX0 (pv 0) T.cl mB GB hr bB (fun σ => passAt (takes_of rfl rfl rfl rfl) σ)))
      (pss_one (ps_expr (pe_meth (pv 0) T.cl mG GG hr2 bG .nil pass0 (pa_cons (pv 1) (pa_cons (pv 2) (pa_cons (pe_dget hu (pe_fld (pv 0) rfl) (pv 1) (fun _ _ => rfl)) pa_nil)))))), ?_⟩
    obtain ⟨dx, hi⟩ := hd.inst'
    refine ⟨_, rfl, d, dx, _, rfl, hi, rfl, d, st, p, rfl, hd, fun hlim H1 k1 hd1 => ?_, fun hlim H1 x s1 nx hx => qe hlim H1 x s1 nx hx⟩
    obtain ⟨dx1, hi1⟩ := hd1.inst'
    have hg := hd1.get a
    rw [show tget st.tick.tab a = some i from ht] at hg
    have hil : i < st.cs.length := gd.T.ix _ (tget_mem ht)
    refine ⟨_, rfl, d, dx1, _, rfl, hi1, rfl, _, rfl, _, rfl, _, rfl, d, CD, dx1, _, .ref p.kd, rfl, hi1, T.cl, T.na _ (by decide +kernel), rfl, _, rfl, p.kd, .ref (p.cas i), rfl, hg, ?_⟩
    refine ⟨d, st.tick, p, .ren a b i, rfl, hd1, ht, (by show st.tab.length ≤ 1000; have := gd.T.len; omega), (by show st.chg.length ≤ 1000; omega), fun H2 k2 hd2 => ?_⟩
    exact q hlim H2 p (chg_out k1 k2) Gw.refl hd2 (gd.tick.chgd ht ⟨hb, hil⟩)
def spRemove (CD CC CE : Addr) : Sp := fun vs H Q E => ∃ (d : Addr) (st : DS) (p : DP) (a : Str) (i : Nat), vs = [.ref d, .str a] ∧ DkAt CD CC H d st p ∧ Gd st ∧ tget st.tab a = some i ∧ st.chg.length ≤ 900 ∧
  AftE CD CC CE d st (st.tick.chgd (.rem a)) p H Q E
theorem scRemove : FnScope ["self", "name"] ["self", "name"] (defScope sDiskRemove) := ⟨rfl, rfl, rfl, by decide +kernel, rfl, by decide +kernel, by decide +kernel⟩
theorem ok_remove {f fI fB fG CD CC CE : Addr} {fd fdB fdG : FuncData} (F : Fun K "remove" "Disk.remove" sDiskRemove f fd) (T : KC K CD fI CDf)
    (GB : FnOk P w K mg base (L2.CX P w) 3 fB fdB ["self"] (spBegin CD CC CE)) (bB : Binds K fdB ["self"] []) (mB : Meth K CD "_begin_deed" fB) (GG : FnOk P w K mg base CX0 2 fG fdG ["self", "old", "new", "content"] (spChange CD CC)) (bG : Binds K fdG ["self", "old", "new", "content"] []) (mG : Meth K CD "_change" fG) :
    FnOk P w K mg base (L2.CX P w) 4 f fd ["self", "name"] (spRemove CD CC CE) := by
  refine F.okX scRemove (fun vs H Q E h => ?_) (fun cdv A outer s H vs Q E hr h => ?_)
  · obtain ⟨d, st, p, a, i, rfl, _⟩ := h
    rfl
  · obtain ⟨d, st, p, a, i, rfl, hd, gd, ht, hch, q, qe⟩ := h
    have hr2 := hr.mono (j := 2) (by decide)
    refine ⟨_, pss_cons (ps_expr (pe_methX0 (pv 0) T.cl mB GB hr bB (fun σ => passAt (takes_of rfl rfl rfl rfl) σ)))
      (pss_one (ps_expr (pe_meth (pv 0) T.cl mG GG hr2 bG .nil pass0 (pa_cons (pv 1) (pa_cons pe_non (pa_cons pe_non pa_nil)))))), ?_⟩
    obtain ⟨dx, hi⟩ := hd.inst'
    refine ⟨_, rfl, d, dx, _, rfl, hi, rfl, d, st, p, rfl, hd, fun hlim H1 k1 hd1 => ?_, fun hlim H1 x s1 nx hx => qe hlim H1 x s1 nx hx⟩
    obtain ⟨dx1, hi1⟩ := hd1.inst'
    refine ⟨_, rfl, d, dx1, _, rfl, hi1, rfl, _, rfl, ?_⟩
    refine ⟨d, st.tick, p, .rem a, rfl, hd1, ⟨i, ht⟩, (by show st.tab.length ≤ 1000; have := gd.T.len; omega), (by show st.chg.length ≤ 1000; omega), fun H2 k2 hd2 => ?_⟩
    exact q hlim H2 p (chg_out k1 k2) Gw.refl hd2 (gd.tick.chgd ⟨i, ht⟩ trivial)
end
end K2

namespace K2
open PySem L2
theorem pe_fldK {X : Cx} {e : Expr} {f : Str} {pos : Pos} {ta : TE} (K : PySem.W.Frag) (hK : X.K = K) (he : PE X e ta) (hb : attributeBase e f X.env (eval e X.env) = eval e X.env) : PE X (.Attribute e f pos) (tFld K ta f) := by
  subst hK
  exact pe_fld he hb
theorem gap_putK {kvs : List (Key × V)} {k : Key} {v : V} (h : k ∉ kvs.map (·.1)) : putK kvs k v = kvs ++ [(k, v)] := by
  unfold putK
  rw [if_neg]
  intro z
  obtain ⟨p, hp, e⟩ := List.any_eq_true.mp z
  exact h (List.mem_map.mpr ⟨p, hp, of_decide_eq_true e⟩)
/-- a dict comprehension over a walk -/
theorem dc_it {J : It} {n : Nat} {G : Hp → Prop} {Y : Nat → Hp → V → Hp → Prop} (w : Walk J n G Y) {g : TG} {tt : TT} {tk tv : TE} {vs : List Nat} {σ : St} {H1 : Hp} {D : Addr} {Qd : Hp → Prop} (Pv : Nat → Hp → Prop) (h0 : Pv 0 (upd H1 D (.dK []))) (hG : ∀ i H, i ≤ n → Pv i H → G H)
    (hs : ∀ i x H H', i < n → Pv i H → Y i H x H' → g x (wipe σ vs) H' fun σ2 H2 => wipe σ2 vs = wipe σ vs ∧ tt σ2 H2 fun b H3 =>
      if b = true then tk σ2 H3 fun y H4 => tv σ2 H4 fun z H5 => ∃ kvs k, y = kV k ∧ H5 D = some (.dK kvs) ∧ kvs.length < sizeLine ∧ Pv (i + 1) (upd H5 D (.dK (putK kvs k z))) else Pv (i + 1) H3) (hd : ∀ H, Pv n H → Qd H) :
    ∃ W : Nat → Nat → Hp → Prop, (∃ m, W 0 m (upd H1 D (.dK []))) ∧ ∀ i m H, W i m H →
      (J.stop i H ∧ Qd H) ∨ (J.go i H ∧ ∃ Nx : Hp → Prop, (∀ H', Nx H' → ∃ m', m' < m ∧ W (i + 1) m' H') ∧ ∀ x H', J.yld i H x H' → g x (wipe σ vs) H' fun σ2 H2 => wipe σ2 vs = wipe σ vs ∧ tt σ2 H2 fun b H3 =>
        if b = true then tk σ2 H3 fun y H4 => tv σ2 H4 fun z H5 => ∃ kvs k, y = kV k ∧ H5 D = some (.dK kvs) ∧ kvs.length < sizeLine ∧ Nx (upd H5 D (.dK (putK kvs k z))) else Nx H3) := by
  refine ⟨fun i m H => m = n - i ∧ i ≤ n ∧ Pv i H, ⟨n, by simp, Nat.zero_le _, h0⟩, ?_⟩
  rintro i m H ⟨rfl, hi, p⟩
  have q := hG i H hi p
  by_cases hlt : i < n
  · exact .inr ⟨w.goes i H hlt q, Pv (i + 1), fun H' p' => ⟨n - (i + 1), by omega, rfl, hlt, p'⟩, fun x H' y => hs i x H H' hlt p (w.yields i H x H' hlt q y)⟩
  · have e : i = n := by omega
    subst e
    exact .inl ⟨w.stops H q, hd H p⟩
/-- {k: d[k] for k in d}, d a table -/
theorem dc_tab {kd : Addr} {od : Obj} {h : Nat → V} {t : Tb} {j : Nat} {tv : TE} {σ : St} {H1 : Hp} {D : Addr} {Qd : Hp → Prop} (hk : H1 kd = some (.frz od (.dK (mp h t)))) (nD : H1 D = none) (nd : (t.map (·.1)).Nodup) (hl : t.length ≤ 1000) (hj : j < σ.length)
    (hw : ∀ v, wipe ((wipe σ [j]).set j v) [j] = wipe σ [j])
    (hv : ∀ H a i Q, Same H1 H → tget t a = some i → Q (h i) H → tv ((wipe σ [j]).set j (some (.str a))) H Q) (hd : ∀ H, Same H1 H → H D = some (.dK (mp h t)) → Qd H) :
    ∃ W : Nat → Nat → Hp → Prop, (∃ m, W 0 m (upd H1 D (.dK []))) ∧ ∀ i m H, W i m H →
      ((Itk kd od (mp h t)).stop i H ∧ Qd H) ∨ ((Itk kd od (mp h t)).go i H ∧ ∃ Nx : Hp → Prop, (∀ H', Nx H' → ∃ m', m' < m ∧ W (i + 1) m' H') ∧ ∀ x H', (Itk kd od (mp h t)).yld i H x H' → gName j x (wipe σ [j]) H' fun σ2 H2 => wipe σ2 [j] = wipe σ [j] ∧ tYes σ2 H2 fun b H3 =>
        if b = true then tVar j σ2 H3 fun y H4 => tv σ2 H4 fun z H5 => ∃ kvs k, y = kV k ∧ H5 D = some (.dK kvs) ∧ kvs.length < sizeLine ∧ Nx (upd H5 D (.dK (putK kvs k z))) else Nx H3) := by
  refine dc_it walk_keys (fun i H => Same H1 H ∧ H D = some (.dK (mp h (t.take i)))) ⟨same_new nD, upd_same⟩ (fun i H _ z => z.1 _ _ hk) ?_ (fun H z => ?_)
  · rintro i x H H' hi ⟨sm, hD⟩ ⟨rfl, k, v, hkv, rfl⟩
    have hi2 : i < t.length := by rw [← mp_len h t]; exact hi
    have e0 : (mp h t)[i]? = some ((Sum.inr t[i].1 : Key), h t[i].2) := by
      unfold mp
      rw [List.getElem?_map, List.getElem?_eq_getElem hi2]
      rfl
    rw [e0] at hkv
    obtain ⟨rfl, rfl⟩ := Prod.mk.inj (Option.some.inj hkv)
    refine ⟨hw _, ?_⟩
    dsimp only [tYes]
    rw [if_pos rfl]
    refine ⟨_, List.getElem?_set_self (by rw [wipe_length]; exact hj), hv H' t[i].1 t[i].2 _ sm (tget_in nd (List.getElem_mem hi2)) ?_⟩
    refine ⟨_, (Sum.inr t[i].1 : Key), rfl, hD, ?_, same_put sm nD, ?_⟩
    · rw [mp_len, List.length_take]
      exact small1000 (by omega)
    · rw [upd_same, gap_putK]
      · rw [List.take_add_one, List.getElem?_eq_getElem hi2]
        unfold mp
        rw [List.map_append]
        rfl
      · rw [mp_keys]
        intro z
        obtain ⟨a, ha, e⟩ := List.mem_map.mp z
        have e2 : a = t[i].1 := Sum.inr.inj e
        rw [List.map_take, e2] at ha
        obtain ⟨m, hm, e3⟩ := List.mem_take_iff_getElem.mp ha
        have h1 : m < i := by omega
        have h2 : (t.map (·.1))[i]'(by rw [List.length_map]; exact hi2) = t[i].1 := List.getElem_map _
        have := (List.getElem_inj nd (h₀ := by rw [List.length_map]; omega) (h₁ := by rw [List.length_map]; exact hi2)).mp (e3.trans h2.symm)
        omega
  · rw [mp_len, List.take_length] at z
    exact hd H z.1 z.2
theorem same_lock {H H2 : Hp} {a : Addr} {o : Obj} {u : HO} (h : H a = some u) (s : Same (upd H a (.frz o u)) H2) : Same H (upd H2 a u) := fun c x e => by
  by_cases z : c = a
  · subst z
    rw [upd_same, ← h, e]
  · rw [upd_ne z]
    exact s _ _ (by rw [upd_ne z]; exact e)
theorem DkAt.syn {CD CC : Addr} {H H1 : Hp} {d D L : Addr} {st : DS} {p : DP} (h : DkAt CD CC H d st p) (g : Gd st) {dx : Addr} (k : ∀ a o, H a = some o → a ≠ d → H1 a = some o) (hd : H1 d = some (.ins CD dx (dfs { p with sd := D, cl := L } st.lim st.done)))
    (hD : H1 D = some (.dK (mp (fun i => .ref (p.cas i)) st.tab))) (hL : H1 L = some (.lst [])) (nD : H D = none) (nL : H L = none) : DkAt CD CC H1 d { st with sure := st.tab, chg := [] } { p with sd := D, cl := L } := by
  obtain ⟨dx0, e0⟩ := h.inst
  have nd : ∀ {a o}, H a = some o → (∀ C dx fs, o ≠ .ins C dx fs) → a ≠ d := fun ha ho => ne_of ha e0 (ho _ _ _)
  refine ⟨⟨dx, hd⟩, k _ _ h.con (nd h.con fun _ _ _ z => nomatch z), hD, ⟨[], hL, Rows.nil⟩, fun i c hc => ?_, ne_of_none h.con nD, fun i hi => ?_, h.n3, h.n4⟩
  · obtain ⟨dx1, e1, e2⟩ := h.cts i c hc
    exact ⟨dx1, k _ _ e1 (ne_of e1 e0 (by intro z; cases z)), k _ _ e2 (nd e2 fun _ _ _ z => nomatch z)⟩
  · obtain ⟨dx1, e1, e2⟩ := h.cts i _ (List.getElem?_eq_getElem hi)
    exact ne_of_none e2 nL
section
variable {P : Program} {w : World} {K : PySem.W.Frag} {mg : Str → Option Value} {base : Heap}
def DS.syn (st : DS) : DS := { st with sure := st.tab, chg := [] }
def spSyncN (CD CC CE : Addr) : Sp := fun vs H Q E => ∃ (d : Addr) (st : DS) (p : DP), vs = [.ref d] ∧ DkAt CD CC H d st p ∧ Gd st ∧ AftE CD CC CE d st st.tick.syn p H Q E
theorem scSyncN : FnScope ["self", "name"] ["self"] (defScope sDiskSyncNames) := ⟨rfl, rfl, rfl, by decide +kernel, rfl, by decide +kernel, by decide +kernel⟩
theorem ok_syncN {f fI fB CD CC CE : Addr} {fd fdB : FuncData} (F : Fun K "sync_names" "Disk.sync_names" sDiskSyncNames f fd) (T : KC K CD fI CDf)
    (GB : FnOk P w K mg base (L2.CX P w) 3 fB fdB ["self"] (spBegin CD CC CE)) (bB : Binds K fdB ["self"] []) (mB : Meth K CD "_begin_deed" fB) : FnOk P w K mg base (L2.CX P w) 4 f fd ["self"] (spSyncN CD CC CE) := by
  refine F.okX scSyncN (fun vs H Q E h => ?_) (fun cdv A outer s H vs Q E hr h => ?_)
  · obtain ⟨d, st, p, rfl, _⟩ := h
    rfl
  · obtain ⟨d, st, p, rfl, hd, gd, q, qe⟩ := h
    have hu := hu_of hr
    refine ⟨_, pss_cons (ps_expr (pe_methX0 (pv 0) T.cl mB GB hr bB (fun σ => passAt (takes_of rfl rfl rfl rfl) σ)))
      (pss_cons (ps_fld (pv 0) (pe_lock (pe_dc (own := [("name", 1)]) (g := gName 1) (tt := tYes) rfl scSyncN.nd (pi_keys (pe_fld (pv 0) rfl))
          (blkOk_by (N := ["self", "name"]) (sc := defScope sDiskSyncNames) (by decide +kernel))
          (fun _ _ _ _ _ => pg_name (i := 1) scSyncN.nd rfl (Or.inl rfl)) (fun _ _ _ _ _ => pts_nil) (fun _ _ _ _ _ => pv 1) (fun _ _ _ _ _ => pe_dget hu (pe_fldK K rfl (pv 0) rfl) (pv 1) (fun _ _ => rfl)))) rfl)
      (pss_one (ps_fld (pv 0) (pe_lst pa_nil) rfl))), ?_⟩
    obtain ⟨dx, hi⟩ := hd.inst'
    refine ⟨_, rfl, d, dx, _, rfl, hi, rfl, d, st, p, rfl, hd, fun hlim H1 k1 hd1 => ?_, fun hlim H1 x s1 nx hx => qe hlim H1 x s1 nx hx⟩
    obtain ⟨dx1, hi1⟩ := hd1.inst'
    have gt := gd.tick
    have ndk : d ≠ p.kd := ne_of hi1 hd1.con (by intro z; cases z)
    refine ⟨p.kd, _, hd1.con, trivial, fun od => ?_⟩
    have hiL : (upd H1 p.kd (.frz od (.dK (mp (fun i => .ref (p.cas i)) st.tick.tab)))) d = some (.ins CD dx1 [("_contents", .ref p.kd), ("_sure_contents", .ref p.sd), ("_changes", .ref p.cl), ("_allowed", limV st.tick.lim), ("_done", .int (st.tick.done : Int))]) := by
      rw [upd_ne ndk]; exact hi1
    refine ⟨_, rfl, d, CD, dx1, _, .ref p.kd, rfl, hiL, T.cl, T.na _ (by decide +kernel), rfl, p.kd, od, rfl, .inl ⟨_, upd_same, fun D nD => ?_⟩⟩
    refine dc_tab (h := fun i => .ref (p.cas i)) (t := st.tick.tab) (σ := [some (.ref d), none]) upd_same nD gt.T.nd (by have := gt.T.len; omega) (by show 1 < 2; decide) (fun _ => rfl) (fun H2 a i R sm ha r => ?_) (fun H2 sm hD => ?_)
    · refine ⟨_, rfl, d, CD, dx1, _, .ref p.kd, rfl, sm _ _ hiL, T.cl, T.na _ (by decide +kernel), rfl, _, rfl, p.kd, .ref (p.cas i), rfl, ?_, r⟩
      refine .inl ⟨_, (Sum.inr a : Key), .inr ⟨od, sm _ _ upd_same⟩, rfl, ?_⟩
      rw [mp_get, ha]
      rfl
    · have nkD : D ≠ p.kd := fun z => by rw [z, upd_same] at nD; cases nD
      have nD1 : H1 D = none := by rw [upd_ne nkD] at nD; exact nD
      have s12 := same_lock hd1.con sm
      refine ⟨sm _ _ upd_same, _, rfl, d, CD, dx1, _, rfl, s12 _ _ hi1, T.cl, T.na _ (by decide +kernel), (by show 5 < 1000; decide), ?_⟩
      refine ⟨Nat.zero_le _, fun L nL => ?_⟩
      have nLd : L ≠ d := fun z => by rw [z, upd_same] at nL; cases nL
      rw [upd_ne nLd] at nL
      have nL1 : H1 L = none := s12.free nL
      have hD2 : (upd H2 p.kd (.dK (mp (fun i => .ref (p.cas i)) st.tick.tab))) D = some (.dK (mp (fun i => .ref (p.cas i)) st.tick.tab)) := by rw [upd_ne nkD]; exact hD
      have nDd : D ≠ d := fun z => by rw [z, hi1] at nD1; cases nD1
      have nDL : D ≠ L := ne_of_none hD2 nL
      refine ⟨_, rfl, d, CD, dx1, _, rfl, by rw [upd_ne nLd.symm, upd_same], T.cl, T.na _ (by decide +kernel), (by show 5 < 1000; decide), ?_⟩
      have kk : ∀ a o, H1 a = some o → a ≠ d → (upd (upd (upd (upd H2 p.kd (.dK (mp (fun i => .ref (p.cas i)) st.tick.tab))) d (.ins CD dx1 [("_contents", .ref p.kd), ("_sure_contents", .ref D), ("_changes", .ref p.cl), ("_allowed", limV st.tick.lim), ("_done", .int (st.tick.done : Int))])) L (.lst [])) d (.ins CD dx1 [("_contents", .ref p.kd), ("_sure_contents", .ref D), ("_changes", .ref L), ("_allowed", limV st.tick.lim), ("_done", .int (st.tick.done : Int))])) a = some o := fun a o h n => by
        rw [upd_ne n, upd_ne (ne_of_none h nL1), upd_ne n]
        exact s12 _ _ h
      have hds := hd1.syn (D := D) (L := L) gt kk upd_same (by rw [upd_ne nDd, upd_ne nDL, upd_ne nDd]; exact hD2) (by rw [upd_ne nLd, upd_same]) nD1 nL1
      have o1 : Out (foot d p st.cs.length) H H1 := out_d k1
      have fr : ∀ {a}, H1 a = none → H a = none := fun {a} h => o1.free (fun c f => hd1.nf f) h
      refine q hlim _ { p with sd := D, cl := L } (fun a o h nf => kk a o (o1 a o h nf) fun z => nf (.inl z)) (fun a h => ?_) hds gt.sync
      rcases h with h | h | h | h | h
      · exact .inl (.inl h)
      · exact .inl (.inr (.inl h))
      · exact .inr (by rw [h]; exact fr nD1)
      · exact .inr (by rw [h]; exact fr nL1)
      · exact .inl (.inr (.inr (.inr (.inr h))))
end
end K2

namespace K2
open PySem L2
theorem cut0 {xs : List V} (a : Nat) : cutV xs none (some (a : Int)) = xs.take a := by
  unfold cutV
  rw [show HT.sIx xs.length xs.length (some (a : Int)) = min a xs.length from HT.sIx_nat _ _ a, show HT.sIx xs.length 0 none = 0 from rfl, List.drop_zero, Nat.sub_zero]
  by_cases h : a ≤ xs.length
  · rw [Nat.min_eq_left h]
  · rw [Nat.min_eq_right (by omega), List.take_of_length_le (Nat.le_refl _), List.take_of_length_le (by omega)]
theorem cutN {xs : List V} (a : Nat) : cutV xs (some (a : Int)) none = xs.drop a := by
  unfold cutV
  rw [show HT.sIx xs.length 0 (some (a : Int)) = min a xs.length from HT.sIx_nat _ _ a, show HT.sIx xs.length xs.length none = xs.length from rfl]
  by_cases h : a ≤ xs.length
  · rw [Nat.min_eq_left h, List.take_of_length_le (by rw [List.length_drop]; omega)]
  · rw [Nat.min_eq_right (by omega), List.drop_of_length_le (Nat.le_refl _), List.drop_of_length_le (by omega), List.take_nil]
def bump (l : List Int) : List Int := l.dropLast ++ [(l.getLast?.getD 0 + 1) % 256]
theorem bump_len {l : List Int} (h : l ≠ []) : (bump l).length = l.length := by
  unfold bump
  have := List.length_pos_iff.mpr h
  rw [List.length_append, List.length_dropLast, List.length_singleton]
  omega
def olk (c : Cn) (cs : List Int) : Nat := (nb cs (((c.o.length - c.s : Nat) : Int) + 1)).toNat
def olr (c : Cn) (cs : List Int) : List Int := (c.o.drop c.s).take (olk c cs)
def olv (c : Cn) (cs : List Int) : List Int := c.o.take c.s ++ (if olr c cs ≠ [] ∧ nb cs.tail 3 = 1 then bump (olr c cs) else olr c cs)
def olc (c : Cn) (cs : List Int) : List Int := if olr c cs ≠ [] then cs.tail.tail else cs.tail
theorem nb_nn (cs : List Int) {b : Int} (h : 0 < b) : 0 ≤ nb cs b := Int.emod_nonneg _ (by omega)
theorem nb_lt (cs : List Int) {b : Int} (h : 0 < b) : nb cs b < b := Int.emod_lt_of_pos _ h
theorem olr_len (c : Cn) (cs : List Int) : (olr c cs).length ≤ c.o.length := by
  unfold olr
  rw [List.length_take, List.length_drop]
  omega
theorem olv_len (c : Cn) (cs : List Int) (h : c.s ≤ c.o.length) : (olv c cs).length ≤ c.o.length := by
  have e : (olr c cs).length ≤ c.o.length - c.s := by
    unfold olr
    rw [List.length_take, List.length_drop]
    omega
  unfold olv
  rw [List.length_append, List.length_take]
  split
  · rename_i z
    rw [bump_len z.1]
    omega
  · omega
section
variable {P : Program} {w : World} {K : PySem.W.Frag} {mg : Str → Option Value} {base : Heap}
def spOL (CC CH : Addr) : Sp := fun vs H Q _ => ∃ (x dx l h r : Addr) (c : Cn) (cs : List Int), vs = [.ref x, .ref h] ∧ H x = some (.ins CC dx [("octets", .ref l), ("sure", .int (c.s : Int))]) ∧ H l = some (.lst (c.o.map V.int)) ∧ l ≠ r ∧ c.o.length ≤ 1000 ∧ ChAt CH H h r cs ∧
  ∀ H' q, (∀ a o, H a = some o → a ≠ r → H' a = some o) → ChAt CH H' h r (olc c cs) → H q = none → H' q = some (.lst ((olv c cs).map V.int)) → Q (.ref q) H'
theorem scOL : FnScope ["content", "choices", "sure", "unsure", "rest"] ["content", "choices"] (defScope sOctetsLeft) := ⟨rfl, rfl, rfl, by decide +kernel, rfl, by decide +kernel, by decide +kernel⟩
theorem isE_map (l : List Int) : (l.map V.int).isEmpty = l.isEmpty := by cases l <;> rfl
theorem ok_ol {f fN fC fH CC CH : Addr} {fd fdN : FuncData} (F : Fun K "octets_left" "octets_left" sOctetsLeft f fd) (N : Nm mg) (TC : KC K CC fC CCf) (TH : KC K CH fH CHf) (FN : Fun K "next_below" "Choices.next_below" sChoicesNextBelow fN fdN) (bN : Binds K fdN ["self", "bound"] []) (mN : Meth K CH "next_below" fN) :
    FnOk P w K mg base CX0 2 f fd ["content", "choices"] (spOL CC CH) := by
  have GN : FnOk P w K mg base CX0 1 fN fdN ["self", "bound"] (spNB CH) := ok_nb FN TH
  refine F.ok scOL (fun vs H Q E h => ?_) (fun cdv A outer s H vs Q E hr h => ?_)
  · obtain ⟨x, dx, l, h, r, c, cs, rfl, _⟩ := h
    rfl
  · obtain ⟨x, dx, l, h, r, c, cs, rfl, hx, hl, nlr, hc, hh, q⟩ := h
    refine ⟨_, pss_cons (ps_set (i := 2) scOL.nd rfl (.inl rfl) (pe_slice sl_list (pe_fld (pv 0) rfl) po_none (po_some (pe_fld (pv 0) rfl))))
      (pss_cons (ps_set (i := 3) scOL.nd rfl (.inl rfl) (pe_slice sl_list (pe_fld (pv 0) rfl) (po_some (pe_fld (pv 0) rfl)) po_none))
      (pss_cons (ps_set (i := 4) scOL.nd rfl (.inl rfl) (pe_slice sl_list (pv 3) po_none (po_some (pe_meth (pv 1) TH.cl mN GN hr bN .nil pass0 (pa_cons (pe_op op_add (pe_callB call_len_seq (by rfl) N.len PySem.boot_len (pa_cons (pv 3) pa_nil)) pe_int) pa_nil)))))
      (Evl.pss_cut (ps_if (PW.pt (pw_and (pt_truth (pv 4) (by intro _; rfl)) (pw_and1 (pt_cmpR op_eq (pe_meth (pv 1) TH.cl mN GN hr bN .nil pass0 (pa_cons pe_int pa_nil)) pe_int (nomark _)))))
        (pss_one (ps_asg (pe_op op_mod (pe_op op_add (pe_ix ix_list (pv 4) (pe_un un_neg pe_int) (fun _ _ => rfl)) pe_int) pe_int) (pg_sub (pv 4) (pe_un un_neg pe_int) set_list))) pss_nil)
      (pss_one (ps_ret (pe_op op_cat (pv 2) (pv 4))))))), ?_⟩
    obtain ⟨⟨dh, hh1⟩, hh2⟩ := hh
    have nrx : x ≠ r := ne_of hx hh2 (by intro z; cases z)
    have nrh : h ≠ r := ne_of hh1 hh2 (by intro z; cases z)
    refine ⟨_, rfl, x, CC, dx, _, .ref l, rfl, hx, TC.cl, TC.na _ (by decide +kernel), rfl, _, rfl, x, CC, dx, _, .int (c.s : Int), rfl, hx, TC.cl, TC.na _ (by decide +kernel), rfl, _, rfl, l, _, rfl, .inl (.inl hl), fun p2 n2 => ?_⟩
    rw [cut0, ← List.map_take]
    have s2 := same_new (o := .lst ((c.o.take c.s).map V.int)) n2
    refine ⟨_, rfl, x, CC, dx, _, .ref l, rfl, s2 _ _ hx, TC.cl, TC.na _ (by decide +kernel), rfl, _, rfl, x, CC, dx, _, .int (c.s : Int), rfl, s2 _ _ hx, TC.cl, TC.na _ (by decide +kernel), rfl, _, rfl, l, _, rfl, .inl (.inl (s2 _ _ hl)), fun p3 n3 => ?_⟩
    rw [cutN, ← List.map_drop]
    have s3 : Same H (upd (upd H p2 (.lst ((c.o.take c.s).map V.int))) p3 (.lst ((c.o.drop c.s).map V.int))) := s2.trans (same_new n3)
    have e3 : (upd (upd H p2 (.lst ((c.o.take c.s).map V.int))) p3 (.lst ((c.o.drop c.s).map V.int))) p3 = some (.lst ((c.o.drop c.s).map V.int)) := upd_same
    have e2 : (upd (upd H p2 (.lst ((c.o.take c.s).map V.int))) p3 (.lst ((c.o.drop c.s).map V.int))) p2 = some (.lst ((c.o.take c.s).map V.int)) := same_new n3 _ _ upd_same
    have np3 : H p3 = none := s2.free n3
    generalize (upd (upd H p2 (.lst ((c.o.take c.s).map V.int))) p3 (.lst ((c.o.drop c.s).map V.int))) = H3 at s3 e3 e2
    refine ⟨_, rfl, _, rfl, h, dh, _, rfl, s3 _ _ hh1, rfl, _, rfl, p3, _, rfl, .inl (.inl (.inl e3)), _, _, rfl, rfl, ?_⟩
    rw [List.length_map, List.length_drop]
    have hb : 0 < ((c.o.length - c.s : Nat) : Int) + 1 := by omega
    refine ⟨h, r, _, cs, rfl, hb, ⟨⟨dh, s3 _ _ hh1⟩, s3 _ _ hh2⟩, fun H4 k4 c4 => ?_⟩
    have nn := nb_nn cs hb
    have n3r : p3 ≠ r := fun z => by rw [z, hh2] at np3; cases np3
    have n2r : p2 ≠ r := fun z => by rw [z, hh2] at n2; cases n2
    refine ⟨_, rfl, p3, _, rfl, .inl (.inl (k4 _ _ e3 n3r)), fun p4 n4 => ?_⟩
    have ek : nb cs (((c.o.length - c.s : Nat) : Int) + 1) = ((olk c cs : Nat) : Int) := by
      unfold olk
      omega
    rw [ek, cut0, ← List.map_take]
    have n4 : H4 p4 = none := n4
    have s4 : ∀ a o, H a = some o → a ≠ r → H4 a = some o := fun a o h n => k4 a o (s3 a o h) n
    have nr4 : r ≠ p4 := ne_of_none c4.2 n4
    have nh4 : h ≠ p4 := by
      obtain ⟨d1, z⟩ := c4.1
      exact ne_of_none z n4
    have np4 : H p4 = none := by
      cases e : H p4 with
      | none => rfl
      | some o =>
        have := s4 p4 o e nr4.symm
        rw [n4] at this
        cases this
    have s5 : ∀ a o, H a = some o → a ≠ r → (upd H4 p4 (.lst ((olr c cs).map V.int))) a = some o := fun a o h n => same_new n4 _ _ (s4 a o h n)
    have c5 : ChAt CH (upd H4 p4 (.lst ((olr c cs).map V.int))) h r cs.tail := by
      obtain ⟨⟨d1, z1⟩, z2⟩ := c4
      exact ⟨⟨d1, same_new n4 _ _ z1⟩, same_new n4 _ _ z2⟩
    have e5 : (upd H4 p4 (.lst ((olr c cs).map V.int))) p4 = some (.lst ((olr c cs).map V.int)) := upd_same
    have g5 : (upd H4 p4 (.lst ((olr c cs).map V.int))) p2 = some (.lst ((c.o.take c.s).map V.int)) := same_new n4 _ _ (k4 _ _ e2 n2r)
    have e5' : (upd H4 p4 (.lst ((c.o.drop c.s).map V.int |>.take (olk c cs)))) = (upd H4 p4 (.lst ((olr c cs).map V.int))) := by
      unfold olr
      rw [List.map_take]
    show Evl.tCut _ _ _ _ (upd H4 p4 (.lst ((olr c cs).map V.int)))
    generalize (upd H4 p4 (.lst ((olr c cs).map V.int))) = H5 at s5 c5 e5 g5
    refine ⟨fun σ H6 => σ = [some (.ref x), some (.ref h), some (.ref p2), some (.ref p3), some (.ref p4)] ∧ (∀ a o, H a = some o → a ≠ r → H6 a = some o) ∧ ChAt CH H6 h r (olc c cs) ∧ H6 p2 = some (.lst ((c.o.take c.s).map V.int)) ∧
      H6 p4 = some (.lst ((if olr c cs ≠ [] ∧ nb cs.tail 3 = 1 then bump (olr c cs) else olr c cs).map V.int)), ?_, ?_⟩
    · refine ⟨_, rfl, _, .inl ⟨_, .inl (.inl e5), rfl⟩, ?_⟩
      rw [isE_map]
      by_cases hz : olr c cs = []
      · refine iteBF (by rw [hz]; rfl) (iteF ⟨rfl, s5, ?_, g5, ?_⟩)
        · unfold olc
          rw [if_neg (fun z => z hz)]
          exact c5
        · rw [if_neg (fun z => z.1 hz)]
          exact e5
      · refine iteB (by cases e : olr c cs with
          | nil => exact absurd e hz
          | cons a t => rfl) ?_
        obtain ⟨⟨d5, y1⟩, y2⟩ := id c5
        refine ⟨_, rfl, h, d5, _, rfl, y1, rfl, ?_⟩
        refine ⟨h, r, 3, cs.tail, rfl, by decide, c5, fun H6 k6 c6 => ?_⟩
        have n4r : p4 ≠ r := nr4.symm
        have s6 : ∀ a o, H a = some o → a ≠ r → H6 a = some o := fun a o h n => k6 a o (s5 a o h n) n
        refine ⟨rfl, _, rfl, ?_⟩
        have c7 : ChAt CH H6 h r (olc c cs) := by
          unfold olc
          rw [if_pos hz]
          exact c6
        by_cases h1 : nb cs.tail 3 = 1
        · refine iteB (decide_eq_true (by rw [h1])) ?_
          have e6 := k6 _ _ e5 n4r
          have hne : (olr c cs).length ≠ 0 := fun z => hz (List.length_eq_zero_iff.mp z)
          have hlast : (olr c cs) = (olr c cs).dropLast ++ [(olr c cs).getLast?.getD 0] := by
            cases e : (olr c cs).getLast? with
            | none => exact absurd (List.getLast?_eq_none_iff.mp e) hz
            | some z =>
              have e2 := List.dropLast_concat_getLast hz
              have e3 : (olr c cs).getLast hz = z := by
                rw [List.getLast?_eq_some_getLast hz] at e
                exact Option.some.inj e
              rw [e3] at e2
              exact e2.symm
          refine ⟨_, rfl, _, rfl, p4, _, _, .int ((olr c cs).getLast?.getD 0), rfl, rfl, .inl (.inl e6), ?_, ?_⟩
          · have := atI_last ((olr c cs).dropLast.map V.int) (V.int ((olr c cs).getLast?.getD 0))
            rw [← List.map_singleton, ← List.map_append, ← hlast] at this
            exact this
          · refine ⟨_, _, rfl, rfl, _, _, rfl, rfl, (by show (0 : Int) < 256; decide), ?_⟩
            refine ⟨_, rfl, _, rfl, p4, _, -1, (olr c cs).length - 1, rfl, rfl, e6, ?_, rfl, ?_, ?_, ?_, ?_⟩
            · unfold ixN
              rw [if_neg (by decide), List.length_map, if_pos (by omega)]
              congr 1
              omega
            · exact fun a o h n => by
                rw [upd_ne (ne_of_none h np4)]
                exact s6 a o h n
            · obtain ⟨⟨d6, w1⟩, w2⟩ := c7
              exact ⟨⟨d6, by rw [upd_ne nh4]; exact w1⟩, by rw [upd_ne nr4]; exact w2⟩
            · have n24 : p2 ≠ p4 := fun z => by
                have := k4 _ _ e2 n2r
                rw [z, n4] at this
                cases this
              rw [upd_ne n24]
              exact k6 _ _ g5 n2r
            · rw [upd_same, if_pos ⟨hz, h1⟩]
              congr 2
              unfold bump
              conv => lhs; arg 1; rw [hlast]
              rw [List.map_append, List.map_append, List.set_append_right _ _ (by rw [List.length_map, List.length_dropLast]; exact Nat.le_refl _), List.length_map, List.length_dropLast, Nat.sub_self]
              rfl
        · refine iteBF (decide_eq_false fun z => h1 (V.int.inj z)) ⟨rfl, s6, c7, k6 _ _ g5 n2r, ?_⟩
          rw [if_neg (fun z => h1 z.2)]
          exact k6 _ _ e5 n4r
    · rintro σ H6 ⟨rfl, s6, c6, a6, b6⟩
      refine ⟨_, rfl, _, rfl, p2, p4, _, _, rfl, rfl, a6, b6, ?_, fun p np => ?_⟩
      · rw [List.length_map, List.length_map, List.length_take]
        have h1 := olr_len c cs
        refine Nat.le_trans ?_ (by decide : 2000 ≤ sizeLine)
        split
        · rename_i z
          rw [bump_len z.1]
          omega
        · omega
      · have npH : H p = none := by
          cases e : H p with
          | none => rfl
          | some o =>
            have nrp : p ≠ r := fun z => by rw [z] at np; rw [c6.2] at np; cases np
            have := s6 p o e nrp
            rw [np] at this
            cases this
        refine q _ p (fun a o h n => ?_) ?_ npH ?_
        · rw [upd_ne (ne_of_none h npH)]
          exact s6 a o h n
        · obtain ⟨⟨d6, w1⟩, w2⟩ := c6
          exact ⟨⟨d6, same_new np _ _ w1⟩, same_new np _ _ w2⟩
        · rw [upd_same, ← List.map_append]
          rfl
end
end K2

namespace K2
open PySem L2
def hold (st : DS) (n : Str) (os : List Int) : DS := ⟨st.cs ++ [⟨os, os.length⟩], tput st.tab n st.cs.length, tput st.sure n st.cs.length, st.chg, st.lim, st.done⟩
theorem DkAt.hold {CD CC : Addr} {H H1 : Hp} {d : Addr} {st : DS} {p : DP} (h : DkAt CD CC H d st p) (g : Gd st) {n : Str} {os : List Int} {x l dxc : Addr} (k : ∀ a o, H a = some o → a ≠ p.kd → a ≠ p.sd → H1 a = some o)
    (hx : H1 x = some (.ins CC dxc [("octets", .ref l), ("sure", .int (os.length : Int))])) (hl : H1 l = some (.lst (os.map V.int))) (fx : ¬ foot d p st.cs.length x) (fl : ¬ foot d p st.cs.length l)
    (hk : H1 p.kd = some (.dK (putK (mp (fun i => .ref (p.cas i)) st.tab) (.inr n) (.ref x)))) (hs : H1 p.sd = some (.dK (putK (mp (fun i => .ref (p.cas i)) st.sure) (.inr n) (.ref x)))) : DkAt CD CC H1 d (hold st n os) (p.add st.cs.length x l) := by
  have cas : ∀ i, i < st.cs.length → (p.add st.cs.length x l).cas i = p.cas i := fun i hi => if_neg (Nat.ne_of_lt hi)
  have las : ∀ i, i < st.cs.length → (p.add st.cs.length x l).las i = p.las i := fun i hi => if_neg (Nat.ne_of_lt hi)
  have cn : (p.add st.cs.length x l).cas st.cs.length = x := if_pos rfl
  have ln : (p.add st.cs.length x l).las st.cs.length = l := if_pos rfl
  have el : (K2.hold st n os).cs.length = st.cs.length + 1 := by
    show (st.cs ++ [_]).length = _
    rw [List.length_append]; rfl
  have tabs : ∀ t, TbOk st.cs.length t → putK (mp (fun i => V.ref (p.cas i)) t) (.inr n) (.ref x) = mp (fun i => .ref ((p.add st.cs.length x l).cas i)) (tput t n st.cs.length) := fun t ht => by
    rw [← mp_put (fun i => V.ref ((p.add st.cs.length x l).cas i)), cn]
    congr 1
    exact mp_congr ht fun i hi => by show V.ref _ = V.ref _; rw [cas i hi]
  have nk : ∀ {a u}, H a = some u → (∀ z, u ≠ .dK z) → H1 a = some u := fun ha hu => k _ _ ha (ne_of ha h.con (hu _)) (ne_of ha h.sur (hu _))
  refine ⟨?_, ?_, ?_, ?_, fun j c hc => ?_, h.n1, fun j hj => ?_, fun i j hi hj e => ?_, fun i j hi hj e => ?_⟩
  · obtain ⟨dx, e⟩ := h.inst
    exact ⟨dx, nk e fun _ z => nomatch z⟩
  · exact hk.trans (congrArg (fun z => some (HO.dK z)) (tabs _ g.T))
  · exact hs.trans (congrArg (fun z => some (HO.dK z)) (tabs _ g.S))
  · obtain ⟨xs, e, r⟩ := h.chs
    refine ⟨xs, nk e (fun _ z => nomatch z), ?_⟩
    rw [show (K2.hold st n os).chg.map (ctup (p.add st.cs.length x l).cas) = st.chg.map (ctup p.cas) from List.map_congr_left fun c hc => ctup_congr (g.C c hc) cas]
    exact r.keep fun a r e => nk e fun _ z => nomatch z
  · have hc : (st.cs ++ [⟨os, os.length⟩])[j]? = some c := hc
    rcases Nat.lt_trichotomy j st.cs.length with hj | hj | hj
    · rw [List.getElem?_append_left hj] at hc
      rw [cas j hj, las j hj]
      obtain ⟨dx, e1, e2⟩ := h.cts j c hc
      exact ⟨dx, nk e1 (fun _ z => nomatch z), nk e2 (fun _ z => nomatch z)⟩
    · subst hj
      rw [List.getElem?_append_right (Nat.le_refl _), Nat.sub_self] at hc
      obtain rfl := Option.some.inj hc
      rw [cn, ln]
      exact ⟨dxc, hx, hl⟩
    · rw [List.getElem?_eq_none (by rw [List.length_append]; show st.cs.length + 1 ≤ j; omega)] at hc
      cases hc
  · rw [el] at hj
    rcases Nat.lt_succ_iff_lt_or_eq.mp hj with q | q
    · rw [las j q]; exact h.n2 j q
    · rw [q, ln]
      intro z
      exact fl (.inr (.inr (.inr (.inl z))))
  · rw [el] at hi hj
    rcases Nat.lt_succ_iff_lt_or_eq.mp hi with a | a <;> rcases Nat.lt_succ_iff_lt_or_eq.mp hj with b | b
    · rw [las i a, las j b] at e; exact h.n3 i j a b e
    · rw [las i a, b, ln] at e
      exact absurd (.inr (.inr (.inr (.inr ⟨i, a, .inr e.symm⟩)))) fl
    · rw [las j b, a, ln] at e
      exact absurd (.inr (.inr (.inr (.inr ⟨j, b, .inr e⟩)))) fl
    · omega
  · rw [el] at hi hj
    rcases Nat.lt_succ_iff_lt_or_eq.mp hi with a | a <;> rcases Nat.lt_succ_iff_lt_or_eq.mp hj with b | b
    · rw [cas i a, cas j b] at e; exact h.n4 i j a b e
    · rw [cas i a, b, cn] at e
      exact absurd (.inr (.inr (.inr (.inr ⟨i, a, .inl e.symm⟩)))) fx
    · rw [cas j b, a, cn] at e
      exact absurd (.inr (.inr (.inr (.inr ⟨j, b, .inl e⟩)))) fx
    · omega
section
variable {P : Program} {w : World} {K : PySem.W.Frag} {mg : Str → Option Value} {base : Heap}
def spDInit (CD CC : Addr) : Sp := fun vs H Q _ => ∃ (x dx : Addr), vs = [.ref x] ∧ H x = some (.ins CD dx []) ∧
  ∀ H' p, (∀ c o, H c = some o → c ≠ x → H' c = some o) → H p.kd = none → H p.sd = none → H p.cl = none → DkAt CD CC H' x ds0 p → Q .non H'
theorem scDInit : FnScope ["self"] ["self"] (defScope sDiskInit) := ⟨rfl, rfl, rfl, by decide +kernel, rfl, by decide +kernel, by decide +kernel⟩
theorem ok_dInit {f CD CC : Addr} {fd : FuncData} (F : Fun K "__init__" "Disk.__init__" sDiskInit f fd) (T : KC K CD f CDf) : FnOk P w K mg base CX0 1 f fd ["self"] (spDInit CD CC) := by
  refine F.ok scDInit (fun vs H Q E h => ?_) (fun cdv A outer s H vs Q E hr h => ?_)
  · obtain ⟨x, dx, rfl, _⟩ := h
    rfl
  · obtain ⟨x, dx, rfl, hx, q⟩ := h
    refine ⟨_, pss_cons (ps_fld (pv 0) pe_dnewK rfl) (pss_cons (ps_fld (pv 0) pe_dnewK rfl) (pss_cons (ps_fld (pv 0) (pe_lst pa_nil) rfl) (pss_cons (ps_fld (pv 0) pe_non rfl) (pss_one (ps_fld (pv 0) pe_int rfl))))), ?_⟩
    intro a na
    have nxa : x ≠ a := ne_of_none hx na
    refine ⟨_, rfl, x, CD, dx, _, rfl, by rw [upd_ne nxa]; exact hx, T.cl, T.na _ (by decide +kernel), (by decide), ?_⟩
    intro b nb'
    have nba : b ≠ a := fun z => by rw [z, upd_ne nxa.symm, upd_same] at nb'; cases nb'
    have nbx : b ≠ x := fun z => by rw [z, upd_same] at nb'; cases nb'
    have nb : H b = none := by rw [upd_ne nbx, upd_ne nba] at nb'; exact nb'
    refine ⟨_, rfl, x, CD, dx, _, rfl, by rw [upd_ne nbx.symm, upd_same], T.cl, T.na _ (by decide +kernel), (by show 1 < 1000; decide), ?_⟩
    refine ⟨Nat.zero_le _, fun c nc' => ?_⟩
    have ncx : c ≠ x := fun z => by rw [z, upd_same] at nc'; cases nc'
    have ncb : c ≠ b := fun z => by rw [z, upd_ne nbx, upd_same] at nc'; cases nc'
    have nca : c ≠ a := fun z => by rw [z, upd_ne nxa.symm, upd_ne nba.symm, upd_ne nxa.symm, upd_same] at nc'; cases nc'
    have nc : H c = none := by rw [upd_ne ncx, upd_ne ncb, upd_ne ncx, upd_ne nca] at nc'; exact nc'
    refine ⟨_, rfl, x, CD, dx, _, rfl, by rw [upd_ne ncx.symm, upd_same], T.cl, T.na _ (by decide +kernel), (by show 2 < 1000; decide), ?_⟩
    refine ⟨_, rfl, x, CD, dx, _, rfl, upd_same, T.cl, T.na _ (by decide +kernel), (by show 3 < 1000; decide), ?_⟩
    refine ⟨_, rfl, x, CD, dx, _, rfl, upd_same, T.cl, T.na _ (by decide +kernel), (by show 4 < 1000; decide), ?_⟩
    refine q _ ⟨fun _ => 0, fun _ => 0, a, b, c⟩ (fun e o h n => ?_) na nb nc ⟨⟨dx, upd_same⟩, ?_, ?_, ⟨[], ?_, Rows.nil⟩, (fun i c h => by cases h), nba.symm, fun i h => absurd h (Nat.not_lt_zero _), fun i j h => absurd h (Nat.not_lt_zero _), fun i j h => absurd h (Nat.not_lt_zero _)⟩
    · rw [upd_ne n, upd_ne n, upd_ne n, upd_ne (ne_of_none h nc), upd_ne n, upd_ne (ne_of_none h nb), upd_ne n, upd_ne (ne_of_none h na)]
      exact h
    · show _ = some (HO.dK [])
      rw [upd_ne nxa.symm, upd_ne nxa.symm, upd_ne nxa.symm, upd_ne nca.symm, upd_ne nxa.symm, upd_ne nba.symm, upd_ne nxa.symm, upd_same]
    · show _ = some (HO.dK [])
      rw [upd_ne nbx, upd_ne nbx, upd_ne nbx, upd_ne ncb.symm, upd_ne nbx, upd_same]
    · rw [upd_ne ncx, upd_ne ncx, upd_ne ncx, upd_same]
def spHold (CD CC : Addr) : Sp := fun vs H Q _ => ∃ (d l : Addr) (st : DS) (p : DP) (n : Str) (os : List Int), vs = [.ref d, .str n, .ref l] ∧ DkAt CD CC H d st p ∧ Gd st ∧ H l = some (.lst (os.map V.int)) ∧ ¬ foot d p st.cs.length l ∧
  ∀ H' x, (∀ a o, H a = some o → a ≠ p.kd → a ≠ p.sd → H' a = some o) → H x = none → DkAt CD CC H' d (hold st n os) (p.add st.cs.length x l) → Q .non H'
theorem scHold : FnScope ["self", "name", "octets"] ["self", "name", "octets"] (defScope sDiskHold) := ⟨rfl, rfl, rfl, by decide +kernel, rfl, by decide +kernel, by decide +kernel⟩
theorem ok_hold {f fI fC CD CC : Addr} {fd fdC : FuncData} (F : Fun K "_hold" "Disk._hold" sDiskHold f fd) (N : Nm mg) (T : KC K CD fI CDf) (TC : KC K CC fC CCf) (FC : Fun K "__init__" "Content.__init__" sContentInit fC fdC) (bC : Binds K fdC ["self", "octets"] []) (gCC : mg "Content" = some (.ref CC)) :
    FnOk P w K mg base CX0 3 f fd ["self", "name", "octets"] (spHold CD CC) := by
  have GCI : FnOk P w K mg base CX0 1 fC fdC ["self", "octets"] (spCInit CC) := ok_cInit FC N TC
  refine F.ok scHold (fun vs H Q E h => ?_) (fun cdv A outer s H vs Q E hr h => ?_)
  · obtain ⟨d, l, st, p, n, os, rfl, _⟩ := h
    rfl
  · obtain ⟨d, l, st, p, n, os, rfl, hd, gd, hl, nfl, q⟩ := h
    have hu := hu_of hr
    refine ⟨_, pss_cons (ps_dput hu (pe_fld (pv 0) rfl) (pv 1) (pe_make TC.mkC GCI hr (by rfl) gCC bC .nil pass0 (pa_cons (pv 2) pa_nil)) rfl)
      (pss_one (ps_dput hu (pe_fld (pv 0) rfl) (pv 1) (pe_dget hu (pe_fld (pv 0) rfl) (pv 1) (fun _ _ => rfl)) rfl)), ?_⟩
    obtain ⟨dx, hi⟩ := hd.inst'
    refine ⟨_, rfl, ?_⟩
    intro x dxc nx ndx nex
    have nlx : l ≠ x := ne_of_none hl nx
    have nldx : l ≠ dxc := ne_of_none hl ndx
    refine ⟨x, dxc, l, os.map V.int, rfl, upd_same, by rw [upd_ne nlx, upd_ne nldx]; exact hl, fun H3 k3 hx3 => ⟨rfl, ?_⟩⟩
    have s3 : Same H H3 := mk_same nx ndx k3
    have hd3 := hd.same s3
    obtain ⟨dx3, hi3⟩ := hd3.inst'
    have lt4 : ∀ {t}, TbOk st.cs.length t → (mp (fun i => V.ref (p.cas i)) t).length < sizeLine := fun h => by
      rw [mp_len]
      exact small1000 (by have := h.len; omega)
    have ndk : d ≠ p.kd := ne_of hi3 hd3.con (by intro z; cases z)
    have nds : d ≠ p.sd := ne_of hi3 hd3.sur (by intro z; cases z)
    have nxk : x ≠ p.kd := fun z => by rw [z, hd.con] at nx; cases nx
    have nxs : x ≠ p.sd := fun z => by rw [z, hd.sur] at nx; cases nx
    have nlk : l ≠ p.kd := fun z => nfl (.inr (.inl z))
    have nls : l ≠ p.sd := fun z => nfl (.inr (.inr (.inl z)))
    refine ⟨_, rfl, d, CD, dx3, _, .ref p.kd, rfl, hi3, T.cl, T.na _ (by decide +kernel), rfl, _, rfl, p.kd, _, rfl, DPut.k (k := (Sum.inr n : Key)) hd3.con (lt4 gd.T), ?_⟩
    have hi4 := hi3
    refine ⟨_, rfl, d, CD, dx3, _, .ref p.kd, rfl, by rw [upd_ne ndk]; exact hi3, T.cl, T.na _ (by decide +kernel), rfl, _, rfl, p.kd, .ref x, rfl, ?_, ?_⟩
    · have := DGet.k (H := upd H3 p.kd (.dK (putK (mp (fun i => V.ref (p.cas i)) st.tab) (.inr n) (.ref x)))) (k := (Sum.inr n : Key)) (a := p.kd) upd_same
      rwa [valV_put, if_pos rfl] at this
    · refine ⟨_, rfl, d, CD, dx3, _, .ref p.sd, rfl, by rw [upd_ne ndk]; exact hi3, T.cl, T.na _ (by decide +kernel), rfl, _, rfl, p.sd, _, rfl, DPut.k (k := (Sum.inr n : Key)) (by rw [upd_ne hd.n1.symm]; exact hd3.sur) (lt4 gd.S), ?_⟩
      refine q _ x (fun a o h n1 n2 => ?_) nx ?_
      · rw [upd_ne n2, upd_ne n1]
        exact s3 _ _ h
      · refine hd3.hold gd (fun a o h n1 n2 => ?_) (dxc := dxc) ?_ ?_ (hd.nfree nx) nfl ?_ ?_
        · rw [upd_ne n2, upd_ne n1]
          exact h
        · rw [upd_ne nxs, upd_ne nxk, hx3, List.length_map]
        · rw [upd_ne nls, upd_ne nlk]
          exact s3 _ _ hl
        · rw [upd_ne hd.n1, upd_same]
        · rw [upd_same]
end
end K2

namespace L2
open PySem PySem.Spec PyProof.Rows
section
variable {X : Cx}
/-- name = {..} on one line, the name a local -/
theorem ps_setDc {i : Nat} {y : Str} {py : Pos} {kx vx tg iter : Expr} {ifs : List Expr} {scope : Scope} {own : List (Str × Nat)} {pos spos : Pos} {wi : TI} {g : TG} {tt : TT} {tk tv : TE} (hc : X.calm = true) (hN : X.N.Nodup) (hy : X.N[i]? = some y) (hyl : X.env.scope.names.lookup y = some .local)
    (hsw : swapsWith (.DictComp kx vx [⟨tg, iter, ifs, 0⟩] scope pos) (some (.Name y py)) spos.line X.env = pure true) (hi : PI X tg iter wi) (ok : BlkOk X.N X.env.scope scope own)
    (hg : ∀ (s : Shared) (H : Hp) (C : Addr) (cl : List (Str × Addr)) (fp : List Addr), PG (X.blk s H scope (compEnvC scope cl C X.env) fp) tg g)
    (ht : ∀ (s : Shared) (H : Hp) (C : Addr) (cl : List (Str × Addr)) (fp : List Addr), PTs (X.blk s H scope (compEnvC scope cl C X.env) fp) ifs tt)
    (hk : ∀ (s : Shared) (H : Hp) (C : Addr) (cl : List (Str × Addr)) (fp : List Addr), PE (X.blk s H scope (compEnvC scope cl C X.env) fp) kx tk)
    (he : ∀ (s : Shared) (H : Hp) (C : Addr) (cl : List (Str × Addr)) (fp : List Addr), PE (X.blk s H scope (compEnvC scope cl C X.env) fp) vx tv) (hs : ∀ x, foldedSetIterable iter X.env x = pure x := by intro _; rfl) :
    PS X (.Assign [.Name y py] (.DictComp kx vx [⟨tg, iter, ifs, 0⟩] scope pos) spos) (tAsg (tDc wi g tt tk tv (own.map (·.2))) (gName i)) := by
  refine ⟨fun pins s σ H D I h => ?_⟩
  rw [exec_Assign_Name_used _ _ _ _ hsw]
  refine wpAny_bind (wpAny_standAt (wpAny_bind ?_))
  show wpAny _ X.A (do let _ ← comprehension (.DictComp kx vx [⟨tg, iter, ifs, 0⟩] scope pos) scope X.env (firstIterPos [⟨tg, iter, ifs, 0⟩] pos) newDict false (eval iter X.env) (some (assign (.Name y py) X.env))) _ _ s
  have h : tDc wi g tt tk tv (own.map (·.2)) σ H (fun x H1 => gName i x σ H1 D.nx) := h
  refine wpAny_bind (thn (dc_core (Qf := fun _ s' => SP X pins D .next s') hc hN I hi ok hg ht hk he hs h fun L C s' m H' I' q hn f => ?_) fun _ s' hq => wpAny_pure (wpAny_pure hq))
  show wpAny _ _ (assign (.Name y py) X.env (.ref L)) _ _ _
  refine wpAny_assign_Name (store_ok2 (v := V.ref L) I' hN hy (.inl hyl) rfl (fun s2 I2 ⟨a, sb, ha⟩ => ?_) (.inr hyl))
  obtain ⟨f0, f1, f2, f3, f4, f5⟩ := f
  have haC : C ≠ a := by
    rcases ha with z | z
    · rw [z]; exact f1
    · exact fun e => f4 y a z e.symm
  exact ⟨m, hn.sameBut sb haC, fun h3 sb3 => ⟨_, H', I2.turned (t' := s2.toks) (fun b o hb e => (sb3.2 b hb).trans e) f0 f1 f3 f4 f5, q⟩⟩
theorem sw_trueD {kx vx : Expr} {gs : List Comprehension} {scope : Scope} {pos py : Pos} {y : Str} {l : Nat} {env : Env} (hk : env.scope.kind = .function) (hy : env.scope.names.lookup y = some .local) (hl : (py.line == pos.line) = true)
    (ha : (scope.names.any fun (n, k) => n == y && (k == .local || k == .cell)) = false) : swapsWith (.DictComp kx vx gs scope pos) (some (.Name y py)) l env = pure true := by
  have ky : env.kindOf y = some .local := hy
  have hb : env.blockKind = .function := by unfold Env.blockKind; rw [hk]; rfl
  unfold swapsWith
  simp only [hb, ky, ha, Expr.pos, hl]
  rfl
end
end L2

namespace K2
open PySem L2
/-! ### what is left -/
abbrev Fl := List (Str × List Int)
def cnm (st : DS) (t : Tb) (n : Str) : Cn := ((tget t n).bind fun i => st.cs[i]?).getD ⟨[], 0⟩
def stp (st : DS) (t : Tb) (a : Fl × List Int) (n : Str) : Fl × List Int := (a.1 ++ [(n, olv (cnm st t n) a.2)], olc (cnm st t n) a.2)
def hld (ps : Fl) : DS := ps.foldl (fun a q => hold a q.1 q.2) ds0
def lsK (st : DS) (cs : List Int) : Nat := (nb cs ((st.chg.length : Int) + 1)).toNat
def lsT (st : DS) (cs : List Int) : Tb := run st.sure (st.chg.take (lsK st cs))
def lsN (st : DS) (cs : List Int) : List Str := srt ((lsT st cs).map (·.1))
def lsS (st : DS) (cs : List Int) (k : Nat) : Fl × List Int := ((lsN st cs).take k).foldl (stp st (lsT st cs)) ([], cs.tail)
def lsP (st : DS) (cs : List Int) : Fl := ((lsN st cs).foldl (stp st (lsT st cs)) ([], cs.tail)).1
theorem lsS_succ (st : DS) (cs : List Int) {k : Nat} (h : k < (lsN st cs).length) : lsS st cs (k + 1) = stp st (lsT st cs) (lsS st cs k) (lsN st cs)[k] := by
  unfold lsS
  rw [List.take_add_one, List.getElem?_eq_getElem h, List.foldl_append]
  rfl
theorem lsS_end (st : DS) (cs : List Int) : (lsS st cs (lsN st cs).length).1 = lsP st cs := by
  unfold lsS lsP
  rw [List.take_length]
theorem hld_snoc (ps : Fl) (q : Str × List Int) : hld (ps ++ [q]) = hold (hld ps) q.1 q.2 := by
  unfold hld
  rw [List.foldl_append]
  rfl
theorem snocI {α : Type} {P : List α → Prop} (h0 : P []) (h1 : ∀ l a, P l → P (l ++ [a])) (l : List α) : P l := by
  have : ∀ n (l : List α), l.length = n → P l := fun n => by
    induction n with
    | zero => intro l h; rw [List.length_eq_zero_iff.mp h]; exact h0
    | succ n ih =>
      intro l h
      have hne : l ≠ [] := fun z => by rw [z] at h; cases h
      rw [← List.dropLast_concat_getLast hne]
      exact h1 _ _ (ih _ (by rw [List.length_dropLast]; omega))
  exact this _ l rfl
theorem hld_ok (ps : Fl) : (hld ps).sure = (hld ps).tab ∧ (hld ps).chg = [] ∧ (hld ps).lim = none ∧ (hld ps).done = 0 ∧ (hld ps).cs = ps.map fun q => ⟨q.2, q.2.length⟩ := by
  refine snocI (P := fun ps => (hld ps).sure = (hld ps).tab ∧ (hld ps).chg = [] ∧ (hld ps).lim = none ∧ (hld ps).done = 0 ∧ (hld ps).cs = ps.map fun q => ⟨q.2, q.2.length⟩) ⟨rfl, rfl, rfl, rfl, rfl⟩ (fun l a h => ?_) ps
  obtain ⟨h1, h2, h3, h4, h5⟩ := h
  rw [hld_snoc]
  refine ⟨?_, h2, h3, h4, ?_⟩
  · show tput (hld l).sure _ _ = tput (hld l).tab _ _
    rw [h1]
  · show (hld l).cs ++ [_] = _
    rw [h5, List.map_append]
    rfl
theorem Gd.hold {st : DS} (g : Gd st) (hs : st.sure = st.tab) (hc : st.chg = []) {n : Str} (hn : n ∈ NM) (os : List Int) : Gd (K2.hold st n os) := by
  have el : (K2.hold st n os).cs.length = st.cs.length + 1 := by
    show (st.cs ++ [_]).length = _
    rw [List.length_append]; rfl
  refine ⟨?_, ?_, ?_, ?_, ?_⟩
  · rw [el]; exact (g.T.mono (Nat.le_succ _)).put hn (Nat.lt_succ_self _)
  · rw [el]; exact (g.S.mono (Nat.le_succ _)).put hn (Nat.lt_succ_self _)
  · show ∀ c ∈ st.chg, _
    rw [hc]
    exact fun c h => absurd h List.not_mem_nil
  · show tput st.tab n _ = run (tput st.sure n _) st.chg
    rw [hc, hs]
    rfl
  · show ∀ j c, st.chg[j]? = some c → _
    rw [hc]
    intro j c h
    simp at h
theorem gd0 : Gd ds0 := ⟨TbOk.nil _, TbOk.nil _, fun c h => absurd h List.not_mem_nil, rfl, fun j c h => by simp [ds0] at h⟩
theorem hld_gd (ps : Fl) (h : ∀ q ∈ ps, q.1 ∈ NM) : Gd (hld ps) := by
  revert h
  refine snocI (P := fun ps => (∀ q ∈ ps, q.1 ∈ NM) → Gd (hld ps)) (fun _ => gd0) (fun l a ih h => ?_) ps
  rw [hld_snoc]
  obtain ⟨h1, h2, _⟩ := hld_ok l
  exact (ih fun q hq => h q (List.mem_append_left _ hq)).hold h1 h2 (h a (List.mem_append_right _ List.mem_cons_self)) _
theorem fold_fst (st : DS) (t : Tb) (ns : List Str) (cs : List Int) : ((ns.foldl (stp st t) (([], cs) : Fl × List Int)).1).map (fun q : Str × List Int => q.1) = ns := by
  refine snocI (P := fun ns => ((ns.foldl (stp st t) (([], cs) : Fl × List Int)).1).map (fun q : Str × List Int => q.1) = ns) rfl (fun l a h => ?_) ns
  rw [List.foldl_append]
  show ((l.foldl (stp st t) (([], cs) : Fl × List Int)).1 ++ [(a, _)]).map (fun q : Str × List Int => q.1) = _
  rw [List.map_append, h]
  rfl
theorem lsS_names (st : DS) (cs : List Int) (k : Nat) : ((lsS st cs k).1).map (fun q : Str × List Int => q.1) = (lsN st cs).take k := fold_fst _ _ _ _
theorem lsS_nm (st : DS) (cs : List Int) (k : Nat) : ∀ q ∈ (lsS st cs k).1, q.1 ∈ NM := fun q hq => by
  have : q.1 ∈ (lsN st cs).take k := by
    rw [← lsS_names]
    exact List.mem_map.mpr ⟨q, hq, rfl⟩
  exact (srt_mem (List.mem_of_mem_take this)).2
theorem lsT_ok {st : DS} (g : Gd st) (cs : List Int) : TbOk st.cs.length (lsT st cs) := g.S.run fun c hc => g.C c (List.mem_of_mem_take hc)
section
variable {P : Program} {w : World} {K : PySem.W.Frag} {mg : Str → Option Value} {base : Heap}
def spLose (K : PySem.W.Frag) (CD CC : Addr) : Sp := fun vs H Q _ => ∃ (d l : Addr) (st : DS) (p : DP) (cs : List Int), vs = [.ref d, .ref l] ∧ DkAt CD CC H d st p ∧ Gd st ∧ (∀ c ∈ st.cs, c.o.length ≤ 1000) ∧ st.chg.length ≤ 900 ∧ H l = some (.lst (cs.map V.int)) ∧
  ∀ H' d2 p2, Same H H' → DkAt CD CC H' d2 (hld (lsP st cs)) p2 → (∀ a, foot d2 p2 (hld (lsP st cs)).cs.length a → H a = none) → Q (.ref d2) H'
theorem scLose : FnScope ["self", "choices", "left", "name", "contents", "change", "disk"] ["self", "choices"] (defScope sDiskLose) := ⟨rfl, rfl, rfl, by decide +kernel, rfl, by decide +kernel, by decide +kernel⟩
structure LoseF (P : Program) (w : World) (K : PySem.W.Frag) (mg : Str → Option Value) (base : Heap) (CD CC CH : Addr) where
  (fHI fNB fCN fOL fDI fHo : Addr)
  (dHI dNB dCN dOL dDI dHo : FuncData)
  GHI : FnOk P w K mg base CX0 1 fHI dHI ["self", "choices"] (spHInit K CH)
  bHI : Binds K dHI ["self", "choices"] []
  GNB : FnOk P w K mg base CX0 1 fNB dNB ["self", "bound"] (spNB CH)
  bNB : Binds K dNB ["self", "bound"] []
  mNB : Meth K CH "next_below" fNB
  GCN : FnOk P w K mg base CX0 1 fCN dCN ["contents", "change"] spCN
  bCN : Binds K dCN ["contents", "change"] []
  kCN : PySem.W.keepIn K (.ref fCN) = true
  gCN : mg "change_names" = some (.ref fCN)
  GOL : FnOk P w K mg base CX0 2 fOL dOL ["content", "choices"] (spOL CC CH)
  bOL : Binds K dOL ["content", "choices"] []
  kOL : PySem.W.keepIn K (.ref fOL) = true
  gOL : mg "octets_left" = some (.ref fOL)
  GDI : FnOk P w K mg base CX0 1 fDI dDI ["self"] (spDInit CD CC)
  bDI : Binds K dDI ["self"] []
  GHo : FnOk P w K mg base CX0 3 fHo dHo ["self", "name", "octets"] (spHold CD CC)
  bHo : Binds K dHo ["self", "name", "octets"] []
  mHo : Meth K CD "_hold" fHo
  gCH : mg "Choices" = some (.ref CH)
  gCD : mg "Disk" = some (.ref CD)
  MH : Mk K CH fHI
  MD : Mk K CD fDI
  clH : Cls K CH
theorem ok_lose {f fI CD CC CH : Addr} {fd : FuncData} (F : Fun K "lose" "Disk.lose" sDiskLose f fd) (N : Nm mg) (T : KC K CD fI CDf) (Z : LoseF P w K mg base CD CC CH) : FnOk P w K mg base CX0 4 f fd ["self", "choices"] (spLose K CD CC) := by
  have GHI := Z.GHI
  have GNB := Z.GNB
  have GCN := Z.GCN
  have GOL := Z.GOL
  have GDI := Z.GDI
  have GHo := Z.GHo
  refine F.ok scLose (fun vs H Q E h => ?_) (fun cdv A outer s H vs Q E hr h => ?_)
  · obtain ⟨d, l, st, p, cs, rfl, _⟩ := h
    rfl
  · obtain ⟨d, l, st, p, cs, rfl, hd, gd, hco, hch, hl, q⟩ := h
    have hu := hu_of hr
    have hr1 := hr.mono (j := 1) (by decide)
    have hr2 := hr.mono (j := 2) (by decide)
    refine ⟨_, pss_cons (ps_set (i := 2) scLose.nd rfl (.inl rfl) (pe_make Z.MH GHI hr2 (by rfl) Z.gCH Z.bHI .nil pass0 (pa_cons (pv 1) pa_nil)))
      (pss_cons (ps_lock (ps_setDc (i := 4) (own := [("name", 3)]) (g := gName 3) (tt := tYes) rfl scLose.nd rfl rfl (sw_trueD rfl rfl rfl (by decide +kernel)) (pi_keys (pe_fld (pv 0) rfl))
          (blkOk_by (N := ["self", "choices", "left", "name", "contents", "change", "disk"]) (sc := defScope sDiskLose) (by decide +kernel))
          (fun _ _ _ _ _ => pg_name (i := 3) scLose.nd rfl (Or.inl rfl)) (fun _ _ _ _ _ => pts_nil) (fun _ _ _ _ _ => pv 3) (fun _ _ _ _ _ => pe_dget hu (pe_fldK K rfl (pv 0) rfl) (pv 3) (fun _ _ => rfl))))
      (Evl.pss_cut (ps_for PassesOwn.never rfl (pi_list (pe_slice sl_list (pe_fld (pv 0) rfl) po_none (po_some (pe_meth (pv 2) Z.clH Z.mNB GNB hr1 Z.bNB .nil pass0 (pa_cons (pe_op op_add (pe_callB call_len_seq (by rfl) N.len PySem.boot_len (pa_cons (pe_fld (pv 0) rfl) pa_nil)) pe_int) pa_nil)))))
          (pg_name (i := 5) scLose.nd rfl (.inl rfl)) (pss_one (ps_expr (pe_call GCN hr1 (by rfl) Z.gCN Z.kCN Z.bCN .nil pass0 (pa_cons (pv 4) (pa_cons (pv 5) pa_nil))))))
      (pss_cons (ps_set (i := 6) scLose.nd rfl (.inl rfl) (pe_make0 Z.MD GDI hr2 (by rfl) Z.gCD Z.bDI .nil pass0))
      (pss_cons (ps_for PassesOwn.never rfl (pi_list (pe_callB (call_sortedD rfl) (by rfl) N.sorted (by decide +kernel) (pa_cons (pv 4) pa_nil))) (pg_name (i := 3) scLose.nd rfl (.inl rfl))
          (pss_one (ps_expr (pe_meth (pv 6) T.cl Z.mHo GHo hr Z.bHo .nil pass0 (pa_cons (pv 3) (pa_cons (pe_call GOL hr2 (by rfl) Z.gOL Z.kOL Z.bOL .nil pass0 (pa_cons (pe_dget hu (pv 4) (pv 3) (fun _ _ => rfl)) (pa_cons (pv 2) pa_nil))) pa_nil))))))
      (pss_one (ps_ret (pv 6))))))), ?_⟩
    obtain ⟨dx, hi⟩ := hd.inst'
    refine ⟨_, rfl, ?_⟩
    intro h dh nh ndh neh
    have nlh : l ≠ h := ne_of_none hl nh
    have nldh : l ≠ dh := ne_of_none hl ndh
    refine ⟨h, dh, l, cs, rfl, upd_same, .inl (.inl (by rw [upd_ne nlh, upd_ne nldh]; exact hl)), fun H1 r k1 nr c1 => ⟨rfl, ?_⟩⟩
    have s1 : Same H H1 := mk_same nh ndh k1
    have nr0 : H r = none := by
      have e1 : r ≠ h := fun z => by rw [z, upd_same] at nr; cases nr
      rw [upd_ne e1] at nr
      have e2 : r ≠ dh := fun z => by rw [z, upd_same] at nr; cases nr
      rw [upd_ne e2] at nr
      exact nr
    have hd1 := hd.same s1
    have hi1 := s1 _ _ hi
    have nds : d ≠ p.sd := ne_of hi1 hd1.sur (by intro z; cases z)
    refine ⟨p.sd, _, hd1.sur, trivial, fun od => ?_⟩
    have hiL : (upd H1 p.sd (.frz od (.dK (mp (fun i => .ref (p.cas i)) st.sure)))) d = some (.ins CD dx [("_contents", .ref p.kd), ("_sure_contents", .ref p.sd), ("_changes", .ref p.cl), ("_allowed", limV st.lim), ("_done", .int (st.done : Int))]) := by
      rw [upd_ne nds]; exact hi1
    refine ⟨_, rfl, d, CD, dx, _, .ref p.sd, rfl, hiL, T.cl, T.na _ (by decide +kernel), rfl, p.sd, od, rfl, .inl ⟨_, upd_same, fun C nC => ?_⟩⟩
    refine dc_tab (h := fun i => .ref (p.cas i)) (t := st.sure) (σ := [some (.ref d), some (.ref l), some (.ref h), none, none, none, none]) upd_same nC gd.S.nd (by have := gd.S.len; omega) (by show 3 < 7; decide) (fun _ => rfl) (fun H2 a i R sm ha r => ?_) (fun H2 sm hC => ?_)
    · refine ⟨_, rfl, d, CD, dx, _, .ref p.sd, rfl, sm _ _ hiL, T.cl, T.na _ (by decide +kernel), rfl, _, rfl, p.sd, .ref (p.cas i), rfl, ?_, r⟩
      refine .inl ⟨_, (Sum.inr a : Key), .inr ⟨od, sm _ _ upd_same⟩, rfl, ?_⟩
      rw [mp_get, ha]
      rfl
    refine ⟨sm _ _ upd_same, ?_⟩
    have nCs : C ≠ p.sd := fun z => by rw [z, upd_same] at nC; cases nC
    have nC1 : H1 C = none := by rw [upd_ne nCs] at nC; exact nC
    have s13 := same_lock hd1.sur sm
    have hC3 : (upd H2 p.sd (.dK (mp (fun i => .ref (p.cas i)) st.sure))) C = some (.dK (mp (fun i => .ref (p.cas i)) st.sure)) := by rw [upd_ne nCs]; exact hC
    generalize (upd H2 p.sd (.dK (mp (fun i => .ref (p.cas i)) st.sure))) = H3 at s13 hC3
    have c3 : ChAt CH H3 h r cs := by
      obtain ⟨⟨d1, z1⟩, z2⟩ := c1
      exact ⟨⟨d1, s13 _ _ z1⟩, s13 _ _ z2⟩
    have s3 : Same H H3 := s1.trans s13
    have nC0 : H C = none := s1.free nC1
    have nCr : C ≠ r := ne_of hC3 c3.2 (by intro z; cases z)
    refine ⟨fun σ H5 => ∃ y5, σ = [some (.ref d), some (.ref l), some (.ref h), none, some (.ref C), y5, none] ∧ Same H H5 ∧ H5 C = some (.dK (mp (fun i => .ref (p.cas i)) (lsT st cs))) ∧ ChAt CH H5 h r cs.tail, ?_, ?_⟩
    · obtain ⟨xs, hx, hrow⟩ := (hd.same s3).chs
      obtain ⟨⟨dh3, hh3⟩, hr3⟩ := id c3
      have hlen : xs.length = st.chg.length := by
        have := hrow.1
        rwa [List.length_map] at this
      refine ⟨_, rfl, d, CD, dx, _, .ref p.cl, rfl, s3 _ _ hi, T.cl, T.na _ (by decide +kernel), rfl, _, rfl, h, dh3, _, rfl, hh3, rfl, _, rfl, d, CD, dx, _, .ref p.cl, rfl, s3 _ _ hi, T.cl, T.na _ (by decide +kernel), rfl, p.cl, xs, rfl, .inl (.inl (.inl hx)), _, _, rfl, rfl, ?_⟩
      rw [hlen]
      have hb : 0 < (st.chg.length : Int) + 1 := by omega
      refine ⟨h, r, _, cs, rfl, hb, c3, fun H4 k4 c4 => ?_⟩
      have nclr : p.cl ≠ r := fun z => by rw [z] at hx; have := (hd.chs); obtain ⟨_, e, _⟩ := this; rw [z, nr0] at e; cases e
      refine ⟨_, rfl, p.cl, xs, rfl, .inl (.inl (k4 _ _ hx nclr)), fun L nL => ?_⟩
      have ek : nb cs ((st.chg.length : Int) + 1) = ((lsK st cs : Nat) : Int) := by
        unfold lsK
        have := nb_nn cs hb
        omega
      have kl : lsK st cs ≤ st.chg.length := by
        have := nb_lt cs hb
        have := nb_nn cs hb
        unfold lsK
        omega
      rw [ek, cut0]
      have s4 : Same H H4 := fun a o e => k4 _ _ (s3 _ _ e) fun z => by rw [z, nr0] at e; cases e
      have s5 : Same H (upd H4 L (.lst (xs.take (lsK st cs)))) := s4.trans (same_new nL)
      have c5 : ChAt CH (upd H4 L (.lst (xs.take (lsK st cs)))) h r cs.tail := by
        obtain ⟨⟨d1, z1⟩, z2⟩ := c4
        exact ⟨⟨d1, same_new nL _ _ z1⟩, same_new nL _ _ z2⟩
      have hC5 : (upd H4 L (.lst (xs.take (lsK st cs)))) C = some (.dK (mp (fun i => .ref (p.cas i)) st.sure)) := same_new nL _ _ (k4 _ _ hC3 nCr)
      have hL5 : (upd H4 L (.lst (xs.take (lsK st cs)))) L = some (.lst (xs.take (lsK st cs))) := upd_same
      have nLC : L ≠ C := ne_of hL5 hC5 (by intro z; cases z)
      have rw5 := (hrow.keep (H1 := upd H4 L (.lst (xs.take (lsK st cs)))) fun a r2 e => same_new nL _ _ (k4 _ _ e fun z => by rw [z, hr3] at e; cases e)).take (lsK st cs)
      generalize (upd H4 L (.lst (xs.take (lsK st cs)))) = H5 at s5 c5 hC5 hL5 rw5
      have xl : (xs.take (lsK st cs)).length = lsK st cs := by rw [List.length_take, hlen]; omega
      refine ⟨L, rfl, ⟨_, .inl (.inl hL5)⟩, for_it (walk_list (xs := xs.take (lsK st cs))) (fun i σ H6 => ∃ y5, σ = [some (.ref d), some (.ref l), some (.ref h), none, some (.ref C), y5, none] ∧ (∀ a o, H5 a = some o → a ≠ C → H6 a = some o) ∧ H6 C = some (.dK (mp (fun i => .ref (p.cas i)) (run st.sure (st.chg.take i))))) ?_ ?_ ?_ ?_⟩
      · exact ⟨none, rfl, fun a o e _ => e, hC5⟩
      · rintro i σ H6 hi6 ⟨y5, rfl, k6, _⟩
        exact .inl (.inl (k6 _ _ hL5 nLC))
      · rintro i x σ H6 H6' hi6 ⟨y5, rfl, k6, hC6⟩ ⟨rfl, hxi⟩
        rw [xl] at hi6
        have hic : i < st.chg.length := by omega
        obtain ⟨t, e1, e2⟩ := rw5.2 i (ctup p.cas st.chg[i]) (by rw [List.getElem?_take_of_lt hi6, List.getElem?_map, List.getElem?_eq_getElem hic]; rfl)
        obtain rfl : x = .ref t := Option.some.inj (hxi.symm.trans e1)
        have ntC : t ≠ C := ne_of e2 hC5 (by intro z; cases z)
        refine ⟨_, rfl, _, rfl, C, t, p.cas, run st.sure (st.chg.take i), st.chg[i], rfl, k6 _ _ e2 ntC, hC6, gd.O i _ (List.getElem?_eq_getElem hic), ?_, fun H7 k7 hC7 => ⟨_, rfl, fun a o e n => k7 _ _ (k6 _ _ e n) n, ?_⟩⟩
        · have := (gd.S.run (cs := st.chg.take i) fun c hc => gd.C c (List.mem_of_mem_take hc)).len
          omega
        · rw [hC7, List.take_add_one, List.getElem?_eq_getElem hic]
          show _ = some (HO.dK (mp _ (run st.sure (st.chg.take i ++ [st.chg[i]]))))
          rw [run_snoc]
      · rintro σ H6 ⟨y5, rfl, k6, hC6⟩
        rw [xl] at hC6
        refine ⟨y5, rfl, (fun a o e => k6 _ _ (s5 _ _ e) fun z => by rw [z, nC0] at e; cases e), hC6, ?_⟩
        obtain ⟨⟨d1, z1⟩, z2⟩ := c5
        refine ⟨⟨d1, k6 _ _ z1 (ne_of z1 hC5 (by intro z; cases z))⟩, k6 _ _ z2 nCr.symm⟩
    · rintro σ H5 ⟨y5, rfl, s5, hC5, c5⟩
      intro d2 dx2 nd2 ndx2 nd2e
      have nCd : C ≠ d2 := ne_of_none hC5 nd2
      refine ⟨d2, dx2, rfl, upd_same, fun H6 p2 k6 n1 n2 n3 hd6 => ⟨rfl, ?_⟩⟩
      have s6 : Same H5 H6 := mk_same nd2 ndx2 k6
      have s06 : Same H H6 := s5.trans s6
      have nd20 : H d2 = none := s5.free nd2
      have fr : ∀ {a}, (upd (upd H5 dx2 (.own d2)) d2 (.ins CD dx2 [])) a = none → H5 a = none ∧ a ≠ d2 := fun {a} e => by
        have e1 : a ≠ d2 := fun z => by rw [z, upd_same] at e; cases e
        rw [upd_ne e1] at e
        have e2 : a ≠ dx2 := fun z => by rw [z, upd_same] at e; cases e
        rw [upd_ne e2] at e
        exact ⟨e, e1⟩
      have hC6 := s6 _ _ hC5
      have tok := lsT_ok gd cs
      refine ⟨_, rfl, C, _, (lsT st cs).map (·.1), rfl, Rd.of hC6, mp_keys _ _, (by rw [List.length_map]; have := tok.len; omega), fun ys L2 pm sr nL2 => ?_⟩
      rw [show ys = lsN st cs from tok.srt pm sr]
      have nL20 : H L2 = none := s06.free nL2
      have nL25 : H5 L2 = none := s6.free nL2
      have s7 : Same H6 (upd H6 L2 (.lst ((lsN st cs).map V.str))) := same_new nL2
      have hd7 := hd6.same s7
      have hL7 : (upd H6 L2 (.lst ((lsN st cs).map V.str))) L2 = some (.lst ((lsN st cs).map V.str)) := upd_same
      have hC7 := s7 _ _ hC6
      have s57 : Same H5 _ := s6.trans s7
      have c7 : ChAt CH (upd H6 L2 (.lst ((lsN st cs).map V.str))) h r cs.tail := by
        obtain ⟨⟨d1, z1⟩, z2⟩ := c5
        exact ⟨⟨d1, s57 _ _ z1⟩, s57 _ _ z2⟩
      have f7 : ∀ a, foot d2 p2 0 a → H5 a = none ∧ a ≠ L2 := fun a f => by
        rcases f with z | z | z | z | ⟨i, hi, _⟩
        · rw [z]; exact ⟨nd2, fun e => by rw [← e] at nL2; obtain ⟨d1, e1⟩ := hd6.inst; rw [nL2] at e1; cases e1⟩
        · rw [z]; exact ⟨(fr n1).1, fun e => by rw [← e, hd6.con] at nL2; cases nL2⟩
        · rw [z]; exact ⟨(fr n2).1, fun e => by rw [← e, hd6.sur] at nL2; cases nL2⟩
        · rw [z]; exact ⟨(fr n3).1, fun e => by obtain ⟨xs, e1, _⟩ := hd6.chs; rw [← e, e1] at nL2; cases nL2⟩
        · exact absurd hi (Nat.not_lt_zero _)
      have s07 : Same H _ := s5.trans s57
      generalize (upd H6 L2 (.lst ((lsN st cs).map V.str))) = H7 at s7 hd7 hL7 hC7 s57 c7 s07
      have nl : (lsN st cs).length ≤ 4 := srt_len _
      refine ⟨L2, rfl, ⟨_, .inl (.inl hL7)⟩, for_it (walk_list (xs := (lsN st cs).map V.str)) (fun i σ H8 => ∃ y3 p3, σ = [some (.ref d), some (.ref l), some (.ref h), y3, some (.ref C), y5, some (.ref d2)] ∧ Same H H8 ∧ H8 C = some (.dK (mp (fun i => .ref (p.cas i)) (lsT st cs))) ∧ H8 L2 = some (.lst ((lsN st cs).map V.str)) ∧
        ChAt CH H8 h r (lsS st cs i).2 ∧ DkAt CD CC H8 d2 (hld (lsS st cs i).1) p3 ∧ ∀ a, foot d2 p3 (hld (lsS st cs i).1).cs.length a → H a = none ∧ a ≠ C ∧ a ≠ L2 ∧ a ≠ r ∧ a ≠ h) ?_ ?_ ?_ ?_⟩
      · refine ⟨none, p2, rfl, s07, hC7, hL7, c7, hd7, fun a f => ?_⟩
        obtain ⟨z1, z2⟩ := f7 a f
        exact ⟨s5.free z1, fun e => (by rw [e, hC5] at z1; cases z1), z2, fun e => (by rw [e, c5.2] at z1; cases z1), fun e => (by obtain ⟨⟨d1, w1⟩, _⟩ := c5; rw [e, w1] at z1; cases z1)⟩
      · rintro i σ H8 hi8 ⟨y3, p3, rfl, _, _, hL8, _⟩
        exact .inl (.inl hL8)
      · rintro i x σ H8 H8' hi8 ⟨y3, p3, rfl, s8, hC8, hL8, c8, hd8, f8⟩ ⟨rfl, hxi⟩
        rw [List.length_map] at hi8
        rw [List.getElem?_map, List.getElem?_eq_getElem hi8] at hxi
        obtain rfl := Option.some.inj hxi
        generalize hn : (lsN st cs)[i] = n at *
        have hnm : n ∈ lsN st cs := by rw [← hn]; exact List.getElem_mem hi8
        obtain ⟨j, hj⟩ := tget_some (srt_mem hnm).1
        have hjl : j < st.cs.length := tok.ix _ (tget_mem hj)
        have hcj := List.getElem?_eq_getElem hjl
        have ecn : cnm st (lsT st cs) n = st.cs[j] := by
          unfold cnm
          rw [hj]
          show (st.cs[j]?).getD _ = _
          rw [hcj]
          rfl
        obtain ⟨dxj, e1, e2⟩ := (hd.same s8).cts j _ hcj
        obtain ⟨dx8, hi8'⟩ := hd8.inst'
        have hg : DGet H8' C (.str n) (some (.ref (p.cas j))) := by
          have := DGet.k (k := (Sum.inr n : Key)) hC8
          rw [mp_get, hj] at this
          exact this
        have e20 := (hd.cts j _ hcj)
        obtain ⟨dxj0, e10, e20⟩ := e20
        have nlr : p.las j ≠ r := fun z => by rw [z, nr0] at e20; cases e20
        refine ⟨_, rfl, d2, dx8, _, rfl, hi8', rfl, _, rfl, _, rfl, _, rfl, C, _, rfl, hg, _, rfl, p.cas j, dxj, p.las j, h, r, st.cs[j], (lsS st cs i).2, rfl, e1, e2, nlr, hco _ (List.getElem_mem hjl), c8, fun H9 q9 k9 c9 nq hq => ?_⟩
        have ar : ∀ {a : Addr} {o : HO}, H8' a = some o → (∀ z, o ≠ .lst z) → H9 a = some o := fun ha ho => k9 _ _ ha (ne_of ha c8.2 (ho _))
        have hd9 : DkAt CD CC H9 d2 (hld (lsS st cs i).1) p3 := hd8.keep fun a o e z => by
          refine k9 _ _ e ?_
          rcases z with f | ⟨r2, rfl⟩
          · exact (f8 a f).2.2.2.1
          · exact ne_of e c8.2 (by intro z; cases z)
        have gd9 := hld_gd _ (lsS_nm st cs i)
        refine ⟨d2, q9, hld (lsS st cs i).1, p3, n, _, rfl, hd9, gd9, hq, hd8.nfree nq, fun H10 x10 k10 nx hd10 => ⟨_, p3.add (hld (lsS st cs i).1).cs.length x10 q9, rfl, ?_⟩⟩
        have ne9 : ∀ {a : Addr} {o : HO}, H9 a = some o → a ≠ x10 := fun ha z => by rw [z, nx] at ha; cases ha
        have nkd : ∀ {a : Addr}, (a = C ∨ a = L2 ∨ a = r ∨ a = h ∨ H a ≠ none) → a ≠ p3.kd ∧ a ≠ p3.sd := fun {a} z => by
          have h1 := f8 p3.kd (.inr (.inl rfl))
          have h2 := f8 p3.sd (.inr (.inr (.inl rfl)))
          refine ⟨fun e => ?_, fun e => ?_⟩
          · rw [← e] at h1
            rcases z with z | z | z | z | z
            · exact h1.2.1 z
            · exact h1.2.2.1 z
            · exact h1.2.2.2.1 z
            · exact h1.2.2.2.2 z
            · exact z h1.1
          · rw [← e] at h2
            rcases z with z | z | z | z | z
            · exact h2.2.1 z
            · exact h2.2.2.1 z
            · exact h2.2.2.2.1 z
            · exact h2.2.2.2.2 z
            · exact z h2.1
        have go : ∀ {a : Addr} {o : HO}, H9 a = some o → (a = C ∨ a = L2 ∨ a = r ∨ a = h ∨ H a ≠ none) → H10 a = some o := fun ha z => k10 _ _ ha (nkd z).1 (nkd z).2
        have nL2r : L2 ≠ r := fun z => by rw [z, c5.2] at nL25; cases nL25
        have hC9 : H9 C = some _ := k9 _ _ hC8 nCr
        have hL9 : H9 L2 = some _ := k9 _ _ hL8 nL2r
        have es : lsS st cs (i + 1) = ((lsS st cs i).1 ++ [(n, olv st.cs[j] (lsS st cs i).2)], olc st.cs[j] (lsS st cs i).2) := by
          rw [lsS_succ st cs hi8, hn]
          unfold stp
          rw [ecn]
        have s9 : Same H H9 := fun a o e => k9 _ _ (s8 _ _ e) fun z => by rw [z, nr0] at e; cases e
        have n80 : ∀ {a}, H8' a = none → H a = none := fun e => s8.free e
        refine ⟨fun a o e => go (s9 _ _ e) (.inr (.inr (.inr (.inr fun z => by rw [z] at e; cases e)))), go hC9 (.inl rfl), go hL9 (.inr (.inl rfl)), ?_, ?_, ?_⟩
        · rw [es]
          obtain ⟨⟨d1, z1⟩, z2⟩ := c9
          exact ⟨⟨d1, go z1 (.inr (.inr (.inr (.inl rfl))))⟩, go z2 (.inr (.inr (.inl rfl)))⟩
        · rw [es, hld_snoc]
          exact hd10
        · rw [es, hld_snoc]
          intro a f
          have el : (hold (hld (lsS st cs i).1) n (olv st.cs[j] (lsS st cs i).2)).cs.length = (hld (lsS st cs i).1).cs.length + 1 := by
            show ((hld (lsS st cs i).1).cs ++ [_]).length = _
            rw [List.length_append]; rfl
          have f : foot d2 (p3.add (hld (lsS st cs i).1).cs.length x10 q9) ((hld (lsS st cs i).1).cs.length + 1) a := by rw [← el]; exact f
          rcases foot_add f with z | z | z
          · exact f8 a z
          · rw [z]
            obtain ⟨⟨d1, w1⟩, w2⟩ := c9
            exact ⟨s9.free nx, (ne9 hC9).symm, (ne9 hL9).symm, (ne9 w2).symm, (ne9 w1).symm⟩
          · rw [z]
            obtain ⟨⟨d1, w1⟩, w2⟩ := c8
            refine ⟨n80 nq, ?_, ?_, ?_, ?_⟩ <;> intro e <;> rw [e] at nq
            · rw [hC8] at nq; cases nq
            · rw [hL8] at nq; cases nq
            · rw [w2] at nq; cases nq
            · rw [w1] at nq; cases nq
      · rintro σ H8 ⟨y3, p3, rfl, s8, hC8, hL8, c8, hd8, f8⟩
        rw [List.length_map, lsS_end] at hd8 f8
        exact ⟨_, rfl, q H8 d2 p3 s8 hd8 fun a f => (f8 a f).1⟩
end
end K2

namespace K2
open PySem L2
def SAt (H : Hp) (S : Addr) : Prop := ∃ x y : Int, H S = some (.lst [.int x, .int y])
theorem SqL.keepS {K : PySem.W.Frag} {H H1 : Hp} {a : Addr} {xs : List V} (h : SqL K H a xs) (k : ∀ o, H a = some o → H1 a = some o) : SqL K H1 a xs := by
  rcases h with (h | ⟨o, h⟩) | h
  · exact .inl (.inl (k _ h))
  · exact .inl (.inr ⟨o, k _ h⟩)
  · exact .inr h
section
variable {P : Program} {w : World} {K : PySem.W.Frag} {mg : Str → Option Value} {base : Heap}
def spDraw (K : PySem.W.Frag) : Sp := fun vs H Q _ => ∃ (S scr : Addr) (b : Int) (ns : List Int), vs = [.ref S, .ref scr, .int b] ∧ 0 < b ∧ b < 1000 ∧ SAt H S ∧ SqL K H scr (ns.map V.int) ∧
  ∀ H' v, (∀ a o, H a = some o → a ≠ S → H' a = some o) → SAt H' S → 0 ≤ v → v < b → Q (.int v) H'
theorem scDraw : FnScope ["state", "script", "size", "cell", "digit"] ["state", "script", "size"] (defScope sDraw) := ⟨rfl, rfl, rfl, by decide +kernel, rfl, by decide +kernel, by decide +kernel⟩
theorem ok_draw {f : Addr} {fd : FuncData} (F : Fun K "_law_draw" "_law_draw" sDraw f fd) (N : Nm mg) : FnOk P w K mg base CX0 1 f fd ["state", "script", "size"] (spDraw K) := by
  refine F.ok scDraw (fun vs H Q E h => ?_) (fun cdv A outer s H vs Q E hr h => ?_)
  · obtain ⟨S, scr, b, ns, rfl, _⟩ := h
    rfl
  · obtain ⟨S, scr, b, ns, rfl, b0, b1, ⟨x, y, hS⟩, hs, q⟩ := h
    refine ⟨_, Evl.pss_cut (ps_if (pt_cmpR op_eq (pe_ix ix_list (pv 0) pe_int (fun _ _ => rfl)) pe_int (nomark _))
        (pss_cons (ps_set (i := 3) scDraw.nd rfl (.inl rfl) pe_int)
        (Evl.pss_cut (ps_if (pt_cmpR op_gt (pe_callB call_len_seq (by rfl) N.len PySem.boot_len (pa_cons (pv 1) pa_nil)) pe_int (nomark _))
          (pss_one (ps_set (i := 3) scDraw.nd rfl (.inl rfl) (pe_callTy call_int1 (by rfl) N.int (by decide +kernel) (pa_cons (pe_ix ix_list (pv 1) (pe_op op_mod (pe_ix ix_list (pv 0) pe_int (fun _ _ => rfl)) (pe_callB call_len_seq (by rfl) N.len PySem.boot_len (pa_cons (pv 1) pa_nil))) (fun _ _ => rfl)) pa_nil)))) pss_nil)
        (pss_cons (ps_asg (pe_op op_mod (pe_op op_mul (pe_op op_add (pe_op op_add (pe_op op_mul (pe_callB call_abs (by rfl) N.abs (by decide +kernel) (pa_cons (pv 3) pa_nil)) pe_int) (pe_op op_mul (pe_ix ix_list (pv 0) pe_int (fun _ _ => rfl)) pe_int)) pe_int) pe_int) pe_int) (pg_sub (pv 0) pe_int set_list))
        (pss_one (ps_asg (pe_op op_add (pe_ix ix_list (pv 0) pe_int (fun _ _ => rfl)) pe_int) (pg_sub (pv 0) pe_int set_list)))))) pss_nil)
      (pss_cons (ps_set (i := 4) scDraw.nd rfl (.inl rfl) (pe_op op_mod (pe_callTy call_int1 (by rfl) N.int (by decide +kernel) (pa_cons (pe_ix ix_list (pv 0) pe_int (fun _ _ => rfl)) pa_nil)) (pv 2)))
      (pss_cons (ps_asg (pe_op op_fdiv (pe_ix ix_list (pv 0) pe_int (fun _ _ => rfl)) (pv 2)) (pg_sub (pv 0) pe_int set_list))
      (pss_one (ps_ret (pv 4))))), ?_⟩
    refine ⟨fun σ H1 => ∃ y3 x1 y1, σ = [some (.ref S), some (.ref scr), some (.int b), y3, none] ∧ (∀ a o, H a = some o → a ≠ S → H1 a = some o) ∧ H1 S = some (.lst [.int x1, .int y1]), ?_, ?_⟩
    · refine ⟨_, rfl, S, _, 1, .int y, rfl, rfl, .inl (.inl hS), rfl, rfl, _, rfl, ?_⟩
      by_cases hy : y = 0
      · refine iteB (decide_eq_true (by rw [hy])) ?_
        refine ⟨fun σ H1 => ∃ c : Int, σ = [some (.ref S), some (.ref scr), some (.int b), some (.int c), none] ∧ H1 = H, ?_, ?_⟩
        · refine ⟨_, rfl, scr, _, rfl, .inl hs, _, _, rfl, rfl, _, rfl, ?_⟩
          rw [List.length_map]
          by_cases hl : ns.length = 0
          · refine iteBF (decide_eq_false (by omega)) ⟨0, rfl, rfl⟩
          · refine iteB (decide_eq_true (by omega)) ?_
            have h1 : 0 ≤ x % (ns.length : Int) := Int.emod_nonneg _ (by omega)
            have h2 : x % (ns.length : Int) < ns.length := Int.emod_lt_of_pos _ (by omega)
            obtain ⟨j, hj⟩ : ∃ j : Nat, x % (ns.length : Int) = (j : Int) := ⟨(x % (ns.length : Int)).toNat, by omega⟩
            have hjl : j < ns.length := by omega
            refine ⟨_, rfl, _, rfl, S, _, 0, .int x, rfl, rfl, .inl (.inl hS), rfl, _, rfl, scr, _, rfl, .inl hs, x, (ns.length : Int), rfl, by rw [List.length_map], by omega, scr, _, _, .int ns[j], rfl, rfl, hs, ?_, .inl ⟨_, rfl, _, rfl, rfl⟩⟩
            rw [hj]
            exact atI_nat (by rw [List.getElem?_map, List.getElem?_eq_getElem hjl]; rfl)
        · rintro σ H1 ⟨c, rfl, rfl⟩
          refine ⟨_, rfl, c, rfl, _, _, rfl, rfl, .inr ⟨by decide, by decide⟩, ?_⟩
          refine ⟨_, rfl, S, _, 0, .int x, rfl, rfl, .inl (.inl hS), rfl, _, _, rfl, rfl, .inr ⟨by decide, by decide⟩, ?_⟩
          refine ⟨_, _, rfl, rfl, _, _, rfl, rfl, _, _, rfl, rfl, .inr ⟨by decide, by decide⟩, _, _, rfl, rfl, (by show (0 : Int) < 4294967291; decide), ?_⟩
          refine ⟨_, rfl, S, _, 1, 1, rfl, rfl, hS, rfl, ?_⟩
          refine ⟨_, rfl, S, _, 0, .int x, rfl, rfl, .inl (.inl upd_same), rfl, _, _, rfl, rfl, _, rfl, S, _, 0, 0, rfl, rfl, upd_same, rfl, ?_⟩
          exact ⟨_, _, _, rfl, fun a o h n => by rw [upd_ne n, upd_ne n]; exact h, upd_same⟩
      · refine iteBF (decide_eq_false fun z => hy (V.int.inj z)) ⟨none, x, y, rfl, fun a o h n => h, hS⟩
    · rintro σ H1 ⟨y3, x1, y1, rfl, k1, h1⟩
      refine ⟨_, rfl, S, _, 1, .int y1, rfl, rfl, .inl (.inl h1), rfl, .inl ⟨y1, rfl, _, rfl, y1, b, rfl, rfl, b0, ?_⟩⟩
      refine ⟨_, rfl, S, _, 1, .int y1, rfl, rfl, .inl (.inl h1), rfl, _, rfl, y1, b, rfl, rfl, ⟨b0, by omega⟩, _, rfl, S, _, 1, 1, rfl, rfl, h1, rfl, ?_⟩
      refine ⟨_, rfl, q _ _ (fun a o h n => by rw [upd_ne n]; exact k1 _ _ h n) ⟨x1, _, upd_same⟩ (Int.emod_nonneg _ (by omega)) (Int.emod_lt_of_pos _ b0)⟩
end
end K2

namespace K2
open PySem L2
def gi (i : Nat) : V := .int (i : Int)
def mrow : Cg → List V → Prop
  | .make n i, r => r = [.str "make", .str n, gi i]
  | .ren a b _, r => r = [.str "rename", .str a, .str b]
  | .rem a, r => ∃ o, r = [.str "remove", .str a, .str o]
structure MP where
  lc : Addr
  td : Addr
  sd : Addr
  cl : Addr
  row : Nat → Addr
  ol : Nat → Addr
def mdK (q : MP) (st : DS) : List (Key × V) := [(.inr "contents", .ref q.lc), (.inr "table", .ref q.td), (.inr "sure", .ref q.sd), (.inr "changes", .ref q.cl), (.inr "limit", limV st.lim), (.inr "done", .int (st.done : Int))]
section
variable {q : MP} {st : DS}
theorem md_c : valV (mdK q st) (.inr "contents") = some (.ref q.lc) := by kernel_rfl
theorem md_t : valV (mdK q st) (.inr "table") = some (.ref q.td) := by kernel_rfl
theorem md_s : valV (mdK q st) (.inr "sure") = some (.ref q.sd) := by kernel_rfl
theorem md_h : valV (mdK q st) (.inr "changes") = some (.ref q.cl) := by kernel_rfl
theorem md_l : valV (mdK q st) (.inr "limit") = some (limV st.lim) := by kernel_rfl
theorem md_d : valV (mdK q st) (.inr "done") = some (.int (st.done : Int)) := by kernel_rfl
theorem md_pt (x : Addr) : putK (mdK q st) (.inr "table") (.ref x) = mdK { q with td := x } st := by kernel_rfl
theorem md_ps (x : Addr) : putK (mdK q st) (.inr "sure") (.ref x) = mdK { q with sd := x } st := by kernel_rfl
theorem md_ph (x : Addr) : putK (mdK q st) (.inr "changes") (.ref x) = mdK { q with cl := x } st := by kernel_rfl
theorem md_pl (l : Option Nat) : putK (mdK q st) (.inr "limit") (limV l) = mdK q { st with lim := l } := by kernel_rfl
theorem md_pd (n : Nat) : putK (mdK q st) (.inr "done") (.int (n : Int)) = mdK q { st with done := n } := by kernel_rfl
end
structure MdAt (H : Hp) (M : Addr) (st : DS) (q : MP) : Prop where
  dct : H M = some (.dK (mdK q st))
  tab : H q.td = some (.dK (mp gi st.tab))
  sur : H q.sd = some (.dK (mp gi st.sure))
  con : H q.lc = some (.lst ((List.range st.cs.length).map fun i => V.ref (q.row i)))
  cts : ∀ (i : Nat) (c : Cn), st.cs[i]? = some c → H (q.row i) = some (.lst [.ref (q.ol i), .int (c.s : Int)]) ∧ H (q.ol i) = some (.lst (c.o.map V.int))
  chs : ∃ xs : List V, H q.cl = some (.lst xs) ∧ xs.length = st.chg.length ∧ ∀ (i : Nat) (c : Cg), st.chg[i]? = some c → ∃ (a : Addr) (r : List V), xs[i]? = some (V.ref a) ∧ H a = some (.tup r) ∧ mrow c r
  n1 : q.td ≠ M
  n2 : q.sd ≠ M
  n3 : q.lc ≠ q.cl
  n4 : ∀ i, i < st.cs.length → q.row i ≠ q.lc ∧ q.row i ≠ q.cl ∧ q.ol i ≠ q.lc ∧ q.ol i ≠ q.cl
  n5 : ∀ i j, i < st.cs.length → j < st.cs.length → q.row i = q.row j → i = j
  n6 : ∀ i j, i < st.cs.length → j < st.cs.length → q.ol i ≠ q.row j
def ftM (M : Addr) (q : MP) (n : Nat) (a : Addr) : Prop := a = M ∨ a = q.td ∨ a = q.sd ∨ a = q.lc ∨ a = q.cl ∨ ∃ i, i < n ∧ (a = q.row i ∨ a = q.ol i)
section
variable {H H1 : Hp} {M : Addr} {st : DS} {q : MP}
theorem MdAt.occ (h : MdAt H M st q) {a : Addr} (f : ftM M q st.cs.length a) : ∃ o, H a = some o ∧ ∀ r, o ≠ .tup r := by
  rcases f with rfl | rfl | rfl | rfl | rfl | ⟨i, hi, rfl | rfl⟩
  · exact ⟨_, h.dct, fun r z => nomatch z⟩
  · exact ⟨_, h.tab, fun r z => nomatch z⟩
  · exact ⟨_, h.sur, fun r z => nomatch z⟩
  · exact ⟨_, h.con, fun r z => nomatch z⟩
  · obtain ⟨xs, e, _⟩ := h.chs; exact ⟨_, e, fun r z => nomatch z⟩
  · exact ⟨_, (h.cts i _ (List.getElem?_eq_getElem hi)).1, fun r z => nomatch z⟩
  · exact ⟨_, (h.cts i _ (List.getElem?_eq_getElem hi)).2, fun r z => nomatch z⟩
theorem MdAt.nfree (h : MdAt H M st q) {a : Addr} (n : H a = none) : ¬ ftM M q st.cs.length a := fun f => by
  obtain ⟨o, e, _⟩ := h.occ f
  rw [n] at e
  cases e
theorem MdAt.nf (h : MdAt H M st q) {a : Addr} (f : ftM M q st.cs.length a) : H a ≠ none := fun n => h.nfree n f
theorem MdAt.keep (h : MdAt H M st q) (k : ∀ a o, H a = some o → (ftM M q st.cs.length a ∨ ∃ r, o = .tup r) → H1 a = some o) : MdAt H1 M st q := by
  have lt : ∀ {i c}, st.cs[i]? = some c → i < st.cs.length := fun e => (List.getElem?_eq_some_iff.mp e).1
  refine ⟨k _ _ h.dct (.inl (.inl rfl)), k _ _ h.tab (.inl (.inr (.inl rfl))), k _ _ h.sur (.inl (.inr (.inr (.inl rfl)))), k _ _ h.con (.inl (.inr (.inr (.inr (.inl rfl))))), fun i c e => ?_, ?_, h.n1, h.n2, h.n3, h.n4, h.n5, h.n6⟩
  · obtain ⟨e1, e2⟩ := h.cts i c e
    exact ⟨k _ _ e1 (.inl (.inr (.inr (.inr (.inr (.inr ⟨i, lt e, .inl rfl⟩)))))), k _ _ e2 (.inl (.inr (.inr (.inr (.inr (.inr ⟨i, lt e, .inr rfl⟩))))))⟩
  · obtain ⟨xs, e, l, r⟩ := h.chs
    refine ⟨xs, k _ _ e (.inl (.inr (.inr (.inr (.inr (.inl rfl)))))), l, fun i c hc => ?_⟩
    obtain ⟨a, r, e1, e2, e3⟩ := r i c hc
    exact ⟨a, r, e1, k _ _ e2 (.inr ⟨_, rfl⟩), e3⟩
theorem MdAt.same (h : MdAt H M st q) (s : Same H H1) : MdAt H1 M st q := h.keep fun a o e _ => s a o e
end
def kpc : Cg → Str × Nat → Bool
  | .make _ _, _ => true
  | .ren a _ _, p => decide (p.1 ≠ a)
  | .rem a, p => decide (p.1 ≠ a)
def mrest (t : Tb) : Cg → Tb
  | .make _ _ => t
  | .ren a _ _ => tdrop t a
  | .rem a => tdrop t a
theorem kp_all (t : Tb) (c : Cg) : t.filter (kpc c) = mrest t c := by
  cases c with
  | make n i => exact List.filter_eq_self.mpr fun _ _ => rfl
  | ren a b i => rfl
  | rem a => rfl
section
variable {P : Program} {w : World} {K : PySem.W.Frag} {mg : Str → Option Value} {base : Heap}
def spMoved : Sp := fun vs H Q _ => ∃ (td t : Addr) (tab : Tb) (c : Cg) (r : List V), vs = [.ref td, .ref t] ∧ H td = some (.dK (mp gi tab)) ∧ H t = some (.tup r) ∧ mrow c r ∧ okC tab c ∧ (tab.map (·.1)).Nodup ∧ tab.length ≤ 10 ∧
  ∀ H' D, Same H H' → H D = none → H' D = some (.dK (mp gi (mv tab c))) → Q (.ref D) H'
theorem scMoved : FnScope ["table", "change", "result", "name"] ["table", "change"] (defScope sLMoved) := ⟨rfl, rfl, rfl, by decide +kernel, rfl, by decide +kernel, by decide +kernel⟩
theorem ok_moved {f : Addr} {fd : FuncData} (F : Fun K "_law_moved" "_law_moved" sLMoved f fd) : FnOk P w K mg base CX0 1 f fd ["table", "change"] spMoved := by
  refine F.ok scMoved (fun vs H Q E h => ?_) (fun cdv A outer s H vs Q E hr h => ?_)
  · obtain ⟨td, t, tab, c, r, rfl, _⟩ := h
    rfl
  · obtain ⟨td, t, tab, c, r, rfl, htd, ht, hm, ok, nd, hl, q⟩ := h
    have hu := hu_of hr
    refine ⟨_, pss_cons (ps_set (i := 2) scMoved.nd rfl (.inl rfl) pe_dnewK)
      (Evl.pss_cut (ps_lock (ps_for PassesOwn.never rfl (pi_keys (pv 0)) (pg_name (i := 3) scMoved.nd rfl (.inl rfl))
        (pss_one (ps_if (PW.pt (pw_or (pt_cmpR op_eq (pe_ix ix_tup (pv 1) pe_int (fun _ _ => rfl)) pe_str (nomark _)) (pw_or1 (pt_cmpR op_ne (pv 3) (pe_ix ix_tup (pv 1) pe_int (fun _ _ => rfl)) (nomark _)))))
          (pss_one (ps_dput hu (pv 2) (pv 3) (pe_dget hu (pv 0) (pv 3) (fun _ _ => rfl)) rfl)) pss_nil))))
      (Evl.pss_cut (ps_if (pt_cmpR op_eq (pe_ix ix_tup (pv 1) pe_int (fun _ _ => rfl)) pe_str (nomark _)) (pss_one (ps_dput hu (pv 2) (pe_ix ix_tup (pv 1) pe_int (fun _ _ => rfl)) (pe_ix ix_tup (pv 1) pe_int (fun _ _ => rfl)) rfl)) pss_nil)
      (Evl.pss_cut (ps_if (pt_cmpR op_eq (pe_ix ix_tup (pv 1) pe_int (fun _ _ => rfl)) pe_str (nomark _)) (pss_one (ps_dput hu (pv 2) (pe_ix ix_tup (pv 1) pe_int (fun _ _ => rfl)) (pe_dget hu (pv 0) (pe_ix ix_tup (pv 1) pe_int (fun _ _ => rfl)) (fun _ _ => rfl)) rfl)) pss_nil)
      (pss_one (ps_ret (pv 2)))))), ?_⟩
    intro R nR
    have s1 : Same H (upd H R (.dK [])) := same_new nR
    have hR1 : (upd H R (.dK [])) R = some (.dK (mp gi [])) := upd_same
    have ntd : td ≠ R := ne_of_none htd nR
    have ntR : t ≠ R := ne_of_none ht nR
    have nttd : t ≠ td := ne_of ht htd (by intro z; cases z)
    generalize (upd H R (.dK [])) = H1 at s1 hR1
    refine ⟨fun σ H2 => ∃ y3, σ = [some (.ref td), some (.ref t), some (.ref R), y3] ∧ Same H H2 ∧ H2 R = some (.dK (mp gi (mrest tab c))), ?_, ?_⟩
    · refine ⟨td, _, s1 _ _ htd, trivial, fun od => ?_⟩
      refine ⟨_, rfl, td, od, rfl, .inl ⟨_, upd_same, for_it walk_keys (fun i σ H2 => ∃ y3, σ = [some (.ref td), some (.ref t), some (.ref R), y3] ∧ (∀ a o, (upd H1 td (.frz od (.dK (mp gi tab)))) a = some o → a ≠ R → H2 a = some o) ∧ H2 R = some (.dK (mp gi ((tab.take i).filter (kpc c))))) ?_ ?_ ?_ ?_⟩⟩
      · exact ⟨none, rfl, fun a o e _ => e, by rw [upd_ne ntd.symm]; exact hR1⟩
      · rintro i σ H2 hi ⟨y3, rfl, k2, _⟩
        exact k2 _ _ upd_same ntd
      · rintro i x σ H2 H2' hi ⟨y3, rfl, k2, hR2⟩ ⟨rfl, k, v, hkv, rfl⟩
        have hi2 : i < tab.length := by rw [← mp_len gi tab]; exact hi
        have e0 : (mp gi tab)[i]? = some ((Sum.inr tab[i].1 : Key), gi tab[i].2) := by
          unfold mp
          rw [List.getElem?_map, List.getElem?_eq_getElem hi2]
          rfl
        rw [e0] at hkv
        obtain ⟨rfl, rfl⟩ := Prod.mk.inj (Option.some.inj hkv)
        have ht2 : H2' t = some (.tup r) := k2 _ _ (by rw [upd_ne nttd]; exact s1 _ _ ht) ntR
        have es : (tab.take (i + 1)).filter (kpc c) = (tab.take i).filter (kpc c) ++ (if kpc c tab[i] = true then [tab[i]] else []) := by
          rw [List.take_add_one, List.getElem?_eq_getElem hi2, List.filter_append]
          congr 1
          show List.filter (kpc c) [tab[i]] = _
          by_cases z : kpc c tab[i] = true
          · rw [if_pos z, List.filter_cons_of_pos z]; rfl
          · rw [if_neg z, List.filter_cons_of_neg z]; rfl
        have put : kpc c tab[i] = true → ∃ H3, DPut H2' R (.str tab[i].1) (gi tab[i].2) H3 ∧ (∀ a o, (upd H1 td (.frz od (.dK (mp gi tab)))) a = some o → a ≠ R → H3 a = some o) ∧ H3 R = some (.dK (mp gi ((tab.take (i + 1)).filter (kpc c)))) := fun z => by
          refine ⟨_, DPut.k (k := (Sum.inr tab[i].1 : Key)) hR2 ?_, fun a o e n => by rw [upd_ne n]; exact k2 _ _ e n, ?_⟩
          · rw [mp_len]
            exact small1000 (by have := List.length_filter_le (kpc c) (tab.take i); rw [List.length_take] at this; omega)
          · rw [upd_same, gap_putK, es, if_pos z]
            · unfold mp
              rw [List.map_append]
              rfl
            · rw [mp_keys]
              intro zz
              obtain ⟨a, ha, e⟩ := List.mem_map.mp zz
              have e2 : a = tab[i].1 := Sum.inr.inj e
              obtain ⟨p, hp, e3⟩ := List.mem_map.mp ha
              have hp2 := (List.mem_filter.mp hp).1
              obtain ⟨m, hm, e4⟩ := List.mem_take_iff_getElem.mp hp2
              have h1 : m < i := by omega
              have h2 : (tab.map (·.1))[m]'(by rw [List.length_map]; omega) = tab[i].1 := by rw [List.getElem_map, e4, e3, e2]
              have h3 : (tab.map (·.1))[i]'(by rw [List.length_map]; exact hi2) = tab[i].1 := List.getElem_map _
              have := (List.getElem_inj nd (h₀ := by rw [List.length_map]; omega) (h₁ := by rw [List.length_map]; exact hi2)).mp (h2.trans h3.symm)
              omega
        have non : kpc c tab[i] = false → H2' R = some (.dK (mp gi ((tab.take (i + 1)).filter (kpc c)))) := fun z => by
          rw [es, if_neg (by rw [z]; exact Bool.false_ne_true), List.append_nil]
          exact hR2
        have hg : DGet H2' td (.str tab[i].1) (some (gi tab[i].2)) := by
          refine .inl ⟨_, (Sum.inr tab[i].1 : Key), .inr ⟨od, k2 _ _ upd_same ntd⟩, rfl, ?_⟩
          rw [mp_get, tget_in nd (List.getElem_mem hi2)]
          rfl
        have yes : kpc c tab[i] = true → sDPut (tVar 2) (tVar 3) (tDGet (tVar 0) (tVar 3)) ⟨fun σ H2 => ∃ y3, σ = [some (.ref td), some (.ref t), some (.ref R), y3] ∧ (∀ a o, (upd H1 td (.frz od (.dK (mp gi tab)))) a = some o → a ≠ R → H2 a = some o) ∧ H2 R = some (.dK (mp gi ((tab.take (i + 1)).filter (kpc c)))), fun _ _ => False, fun _ _ => False, fun _ _ => False⟩ [some (.ref td), some (.ref t), some (.ref R), some (.str tab[i].1)] H2' := fun z => by
          obtain ⟨H3, z1, z2, z3⟩ := put z
          exact ⟨_, rfl, _, rfl, td, _, rfl, hg, _, rfl, _, rfl, R, H3, rfl, z1, _, rfl, z2, z3⟩
        cases c with
        | make n j =>
          obtain rfl : r = [.str "make", .str n, gi j] := hm
          refine ⟨_, rfl, t, _, 0, _, rfl, rfl, SqT.of ht2, rfl, rfl, _, rfl, ?_⟩
          refine iteT (iteT ?_)
          exact yes rfl
        | ren a b j =>
          obtain rfl : r = [.str "rename", .str a, .str b] := hm
          refine ⟨_, rfl, t, _, 0, _, rfl, rfl, SqT.of ht2, rfl, rfl, _, rfl, ?_⟩
          refine iteF ?_
          refine ⟨_, rfl, _, rfl, t, _, 1, .str a, rfl, rfl, SqT.of ht2, atI_nat (j := 1) rfl, rfl, _, rfl, ?_⟩
          by_cases z : tab[i].1 = a
          · refine iteBF (by show (!decide (V.str tab[i].1 = V.str a)) = false; rw [decide_eq_true (by rw [z])]; rfl) ⟨_, rfl, k2, non (decide_eq_false fun y => y z)⟩
          · exact iteB (by show (!decide (V.str tab[i].1 = V.str a)) = true; rw [decide_eq_false fun y => z (V.str.inj y)]; rfl) (yes (decide_eq_true z))
        | rem a =>
          obtain ⟨o, rfl⟩ := hm
          refine ⟨_, rfl, t, _, 0, _, rfl, rfl, SqT.of ht2, rfl, rfl, _, rfl, ?_⟩
          refine iteF ?_
          refine ⟨_, rfl, _, rfl, t, _, 1, .str a, rfl, rfl, SqT.of ht2, atI_nat (j := 1) rfl, rfl, _, rfl, ?_⟩
          by_cases z : tab[i].1 = a
          · refine iteBF (by show (!decide (V.str tab[i].1 = V.str a)) = false; rw [decide_eq_true (by rw [z])]; rfl) ⟨_, rfl, k2, non (decide_eq_false fun y => y z)⟩
          · exact iteB (by show (!decide (V.str tab[i].1 = V.str a)) = true; rw [decide_eq_false fun y => z (V.str.inj y)]; rfl) (yes (decide_eq_true z))
      · rintro σ H2 ⟨y3, rfl, k2, hR2⟩
        rw [mp_len, List.take_length, kp_all] at hR2
        have hk2 : H2 td = some (.frz od (.dK (mp gi tab))) := k2 _ _ upd_same ntd
        refine ⟨hk2, y3, rfl, ?_, by rw [upd_ne ntd.symm]; exact hR2⟩
        intro a o e
        by_cases z : a = td
        · rw [z, upd_same]; rw [z, htd] at e; exact e
        · rw [upd_ne z]
          refine k2 _ _ (by rw [upd_ne z]; exact s1 _ _ e) ?_
          exact ne_of_none e nR
    · rintro σ H2 ⟨y3, rfl, s2, hR2⟩
      have ht2 : H2 t = some (.tup r) := s2 _ _ ht
      have htd2 : H2 td = some (.dK (mp gi tab)) := s2 _ _ htd
      have ml : ∀ c, (mp gi (mrest tab c)).length < sizeLine := fun c => by
        rw [mp_len]
        have : (mrest tab c).length ≤ tab.length := by
          rw [← kp_all]
          exact List.length_filter_le _ _
        exact small1000 (by omega)
      cases c with
      | make n j =>
        obtain rfl : r = [.str "make", .str n, gi j] := hm
        have hR3 : (upd H2 R (.dK (putK (mp gi tab) (.inr n) (gi j)))) R = some (.dK (mp gi (tput tab n j))) := by rw [upd_same, mp_put]
        have s3 : Same H (upd H2 R (.dK (putK (mp gi tab) (.inr n) (gi j)))) := same_put s2 nR
        refine ⟨fun σ H3 => σ = [some (.ref td), some (.ref t), some (.ref R), y3] ∧ Same H H3 ∧ H3 R = some (.dK (mp gi (tput tab n j))), ?_, ?_⟩
        · refine ⟨_, rfl, t, _, 0, _, rfl, rfl, SqT.of ht2, rfl, rfl, _, rfl, iteT ?_⟩
          exact ⟨_, rfl, t, _, 2, gi j, rfl, rfl, SqT.of ht2, atI_nat (j := 2) rfl, _, rfl, _, rfl, t, _, 1, .str n, rfl, rfl, SqT.of ht2, atI_nat (j := 1) rfl, R, _, rfl, DPut.k (k := (Sum.inr n : Key)) hR2 (ml _), rfl, s3, hR3⟩
        · rintro σ H3 ⟨rfl, s3, hR3⟩
          refine ⟨fun σ H3 => σ = [some (.ref td), some (.ref t), some (.ref R), y3] ∧ Same H H3 ∧ H3 R = some (.dK (mp gi (tput tab n j))), ?_, ?_⟩
          · exact ⟨_, rfl, t, _, 0, _, rfl, rfl, SqT.of (s3 _ _ ht), rfl, rfl, _, rfl, iteF ⟨rfl, s3, hR3⟩⟩
          · rintro σ H3 ⟨rfl, s3, hR3⟩
            exact ⟨_, rfl, q H3 R s3 nR hR3⟩
      | ren a b j =>
        obtain rfl : r = [.str "rename", .str a, .str b] := hm
        refine ⟨fun σ H3 => σ = [some (.ref td), some (.ref t), some (.ref R), y3] ∧ Same H H3 ∧ H3 R = some (.dK (mp gi (tdrop tab a))), ?_, ?_⟩
        · exact ⟨_, rfl, t, _, 0, _, rfl, rfl, SqT.of ht2, rfl, rfl, _, rfl, iteF ⟨rfl, s2, hR2⟩⟩
        · rintro σ H3 ⟨rfl, s3, hR3⟩
          have ht3 := s3 _ _ ht
          have hg : DGet H3 td (.str a) (some (gi j)) := by
            have := DGet.k (k := (Sum.inr a : Key)) (s3 _ _ htd)
            rw [mp_get, show tget tab a = some j from ok] at this
            exact this
          refine ⟨fun σ H3 => σ = [some (.ref td), some (.ref t), some (.ref R), y3] ∧ Same H H3 ∧ H3 R = some (.dK (mp gi (tput (tdrop tab a) b j))), ?_, ?_⟩
          · refine ⟨_, rfl, t, _, 0, _, rfl, rfl, SqT.of ht3, rfl, rfl, _, rfl, iteT ?_⟩
            refine ⟨_, rfl, _, rfl, t, _, 1, .str a, rfl, rfl, SqT.of ht3, atI_nat (j := 1) rfl, td, _, rfl, hg, _, rfl, _, rfl, t, _, 2, .str b, rfl, rfl, SqT.of ht3, atI_nat (j := 2) rfl, R, _, rfl, DPut.k (k := (Sum.inr b : Key)) hR3 (ml (.rem a)), rfl, same_put s3 nR, ?_⟩
            rw [upd_same, mp_put]
          · rintro σ H3 ⟨rfl, s3, hR3⟩
            exact ⟨_, rfl, q H3 R s3 nR hR3⟩
      | rem a =>
        obtain ⟨o, rfl⟩ := hm
        refine ⟨fun σ H3 => σ = [some (.ref td), some (.ref t), some (.ref R), y3] ∧ Same H H3 ∧ H3 R = some (.dK (mp gi (tdrop tab a))), ?_, ?_⟩
        · exact ⟨_, rfl, t, _, 0, _, rfl, rfl, SqT.of ht2, rfl, rfl, _, rfl, iteF ⟨rfl, s2, hR2⟩⟩
        · rintro σ H3 ⟨rfl, s3, hR3⟩
          refine ⟨fun σ H3 => σ = [some (.ref td), some (.ref t), some (.ref R), y3] ∧ Same H H3 ∧ H3 R = some (.dK (mp gi (tdrop tab a))), ?_, ?_⟩
          · exact ⟨_, rfl, t, _, 0, _, rfl, rfl, SqT.of (s3 _ _ ht), rfl, rfl, _, rfl, iteF ⟨rfl, s3, hR3⟩⟩
          · rintro σ H3 ⟨rfl, s3, hR3⟩
            exact ⟨_, rfl, q H3 R s3 nR hR3⟩
end
end K2

namespace K2
open PySem L2
section
variable {P : Program} {w : World} {K : PySem.W.Frag} {mg : Str → Option Value} {base : Heap}
def spTurn : Sp := fun vs H Q _ => ∃ (M t : Addr) (st : DS) (q : MP) (c : Cg) (r : List V), vs = [.ref M, .ref t] ∧ MdAt H M st q ∧ H t = some (.tup r) ∧ mrow c r ∧ okC st.tab c ∧ (st.tab.map (·.1)).Nodup ∧ st.tab.length ≤ 10 ∧ st.chg.length ≤ 900 ∧
  ∀ H' D, Out (ftM M q st.cs.length) H H' → H D = none → MdAt H' M (st.chgd c) { q with td := D } → Q .non H'
theorem scTurn : FnScope ["model", "change", "changes"] ["model", "change"] (defScope sLTurn) := ⟨rfl, rfl, rfl, by decide +kernel, rfl, by decide +kernel, by decide +kernel⟩
theorem ok_turn {f fM : Addr} {fd fdM : FuncData} (F : Fun K "_law_turn" "_law_turn" sLTurn f fd) (FM : Fun K "_law_moved" "_law_moved" sLMoved fM fdM) (bM : Binds K fdM ["table", "change"] []) (gM : mg "_law_moved" = some (.ref fM)) : FnOk P w K mg base CX0 2 f fd ["model", "change"] spTurn := by
  have GM : FnOk P w K mg base CX0 1 fM fdM ["table", "change"] spMoved := ok_moved FM
  refine F.ok scTurn (fun vs H Q E h => ?_) (fun cdv A outer s H vs Q E hr h => ?_)
  · obtain ⟨M, t, st, q, c, r, rfl, _⟩ := h
    rfl
  · obtain ⟨M, t, st, q, c, r, rfl, hd, ht, hm, ok, nd, hl, hch, qq⟩ := h
    have hu := hu_of hr
    refine ⟨_, pss_cons (ps_set (i := 2) scTurn.nd rfl (.inl rfl) (pe_dget hu (pv 0) pe_str (fun _ _ => rfl)))
      (pss_cons (ps_expr (pe_bm PySem.F.plainAttrs_list PySem.F.slot_list_append PySem.F.type_list_append mt_append (pv 2) (pa_cons (pv 1) pa_nil)))
      (pss_one (ps_dput hu (pv 0) pe_str (pe_call GM hr (by rfl) gM FM.kp bM .nil pass0 (pa_cons (pe_dget hu (pv 0) pe_str (fun _ _ => rfl)) (pa_cons (pv 1) pa_nil))) rfl))), ?_⟩
    obtain ⟨xs, hx, hxl, hrow⟩ := hd.chs
    have g1 : DGet H M (.str "changes") (some (.ref q.cl)) := by
      have := DGet.k (k := (Sum.inr "changes" : Key)) hd.dct
      rwa [md_h] at this
    refine ⟨_, rfl, M, _, rfl, g1, ?_⟩
    refine ⟨_, rfl, .inl ⟨rfl, _, .inl (.inl hx)⟩, _, rfl, q.cl, xs, _, rfl, rfl, hx, ?_, ?_⟩
    · rw [hxl]
      exact small1000 (by omega)
    have nMc : M ≠ q.cl := ne_of hd.dct hx (by intro z; cases z)
    have nt : t ≠ q.cl := ne_of ht hx (by intro z; cases z)
    have ntd : q.td ≠ q.cl := ne_of hd.tab hx (by intro z; cases z)
    have nsd : q.sd ≠ q.cl := ne_of hd.sur hx (by intro z; cases z)
    have k1 : ∀ a o, H a = some o → a ≠ q.cl → (upd H q.cl (.lst (xs ++ [.ref t]))) a = some o := fun a o e n => by rw [upd_ne n]; exact e
    have e1 : (upd H q.cl (.lst (xs ++ [.ref t]))) q.cl = some (.lst (xs ++ [.ref t])) := upd_same
    have fr1 : ∀ {a}, (upd H q.cl (.lst (xs ++ [.ref t]))) a = none → H a = none := fun {a} e => by
      have n : a ≠ q.cl := fun z => by rw [z, upd_same] at e; cases e
      rwa [upd_ne n] at e
    generalize (upd H q.cl (.lst (xs ++ [.ref t]))) = H1 at k1 e1 fr1
    have g2 : DGet H1 M (.str "table") (some (.ref q.td)) := by
      have := DGet.k (k := (Sum.inr "table" : Key)) (k1 _ _ hd.dct nMc)
      rwa [md_t] at this
    refine ⟨_, rfl, M, _, rfl, g2, _, rfl, q.td, t, st.tab, c, r, rfl, k1 _ _ hd.tab ntd, k1 _ _ ht nt, hm, ok, nd, hl, fun H2 D s12 nD1 hD => ?_⟩
    have hM2 := s12 _ _ (k1 _ _ hd.dct nMc)
    have nD : H D = none := fr1 nD1
    have nDM : D ≠ M := (ne_of_none hd.dct nD).symm
    refine ⟨_, rfl, M, _, rfl, DPut.k (k := (Sum.inr "table" : Key)) hM2 (by show 6 < sizeLine; decide), ?_⟩
    rw [md_pt]
    have kk : ∀ a o, H a = some o → a ≠ q.cl → a ≠ M → (upd H2 M (.dK (mdK { q with td := D } st))) a = some o := fun a o e n1 n2 => by
      rw [upd_ne n2]
      exact s12 _ _ (k1 _ _ e n1)
    have nkM : ∀ {a o}, H a = some o → (∀ z, o ≠ .dK z) → a ≠ M := fun ha ho => ne_of ha hd.dct (ho _)
    refine qq _ D (fun a o e nf => kk _ _ e (fun z => nf (.inr (.inr (.inr (.inr (.inl z)))))) (fun z => nf (.inl z))) nD ⟨upd_same, ?_, kk _ _ hd.sur nsd hd.n2, kk _ _ hd.con hd.n3 (nkM hd.con (fun _ z => nomatch z)), fun i c' hc => ?_, ?_, nDM, hd.n2, hd.n3, hd.n4, hd.n5, hd.n6⟩
    · rw [upd_ne nDM]
      exact hD
    · obtain ⟨c1, c2⟩ := hd.cts i c' hc
      have h4 := hd.n4 i (List.getElem?_eq_some_iff.mp hc).1
      exact ⟨kk _ _ c1 h4.2.1 (nkM c1 (fun _ z => nomatch z)), kk _ _ c2 h4.2.2.2 (nkM c2 (fun _ z => nomatch z))⟩
    · refine ⟨xs ++ [.ref t], by rw [upd_ne nMc.symm]; exact s12 _ _ e1, ?_, fun i c' hc => ?_⟩
      · show (xs ++ [V.ref t]).length = (st.chg ++ [c]).length
        rw [List.length_append, List.length_append, hxl]
        rfl
      · have hc : (st.chg ++ [c])[i]? = some c' := hc
        rcases Nat.lt_trichotomy i st.chg.length with hi | hi | hi
        · rw [List.getElem?_append_left hi] at hc
          obtain ⟨a, r2, z1, z2, z3⟩ := hrow i c' hc
          exact ⟨a, r2, by rw [List.getElem?_append_left (by rw [hxl]; exact hi)]; exact z1, kk _ _ z2 (ne_of z2 hx (by intro z; cases z)) (nkM z2 (fun _ z => nomatch z)), z3⟩
        · subst hi
          rw [List.getElem?_append_right (Nat.le_refl _), Nat.sub_self] at hc
          obtain rfl := Option.some.inj hc
          exact ⟨t, r, by rw [List.getElem?_append_right (Nat.le_of_eq hxl), hxl, Nat.sub_self]; rfl, kk _ _ ht nt (nkM ht (fun _ z => nomatch z)), hm⟩
        · rw [List.getElem?_eq_none (by rw [List.length_append]; show st.chg.length + 1 ≤ i; omega)] at hc
          cases hc
end
end K2

namespace K2
open PySem L2
section
variable {H H1 : Hp} {M : Addr} {st : DS} {q : MP}
theorem MdAt.nkM (h : MdAt H M st q) {a : Addr} {o : HO} (e : H a = some o) (n : ∀ z, o ≠ .dK z) : a ≠ M := ne_of e h.dct (n _)
theorem MdAt.upM (h : MdAt H M st q) {l : Option Nat} {n : Nat} (k : ∀ a o, H a = some o → a ≠ M → H1 a = some o) (e : H1 M = some (.dK (mdK q { st with lim := l, done := n }))) : MdAt H1 M { st with lim := l, done := n } q := by
  refine ⟨e, k _ _ h.tab h.n1, k _ _ h.sur h.n2, k _ _ h.con (h.nkM h.con fun _ z => nomatch z), fun i c hc => ?_, ?_, h.n1, h.n2, h.n3, h.n4, h.n5, h.n6⟩
  · obtain ⟨c1, c2⟩ := h.cts i c hc
    exact ⟨k _ _ c1 (h.nkM c1 (fun _ z => nomatch z)), k _ _ c2 (h.nkM c2 (fun _ z => nomatch z))⟩
  · obtain ⟨xs, e, l, r⟩ := h.chs
    refine ⟨xs, k _ _ e (h.nkM e (fun _ z => nomatch z)), l, fun i c hc => ?_⟩
    obtain ⟨a, r, e1, e2, e3⟩ := r i c hc
    exact ⟨a, r, e1, k _ _ e2 (h.nkM e2 (fun _ z => nomatch z)), e3⟩
theorem MdAt.syn (h : MdAt H M st q) {L : Addr} (k : ∀ a o, H a = some o → a ≠ M → H1 a = some o) (nL : H L = none) (e : H1 M = some (.dK (mdK { q with sd := q.td, cl := L } st))) (eL : H1 L = some (.lst [])) : MdAt H1 M st.syn { q with sd := q.td, cl := L } := by
  refine ⟨e, k _ _ h.tab h.n1, k _ _ h.tab h.n1, k _ _ h.con (h.nkM h.con fun _ z => nomatch z), fun i c hc => ?_, ⟨[], eL, rfl, fun i c hc => by simp [DS.syn] at hc⟩, h.n1, h.n1, ne_of_none h.con nL, fun i hi => ?_, h.n5, h.n6⟩
  · obtain ⟨c1, c2⟩ := h.cts i c hc
    exact ⟨k _ _ c1 (h.nkM c1 (fun _ z => nomatch z)), k _ _ c2 (h.nkM c2 (fun _ z => nomatch z))⟩
  · obtain ⟨c1, c2⟩ := h.cts i _ (List.getElem?_eq_getElem hi)
    obtain ⟨z1, z2, z3, z4⟩ := h.n4 i hi
    exact ⟨z1, ne_of_none c1 nL, z3, ne_of_none c2 nL⟩
theorem MdAt.setR (h : MdAt H M st q) {i : Nat} {c : Cn} {o : List Int} {s : Nat} {l : Addr} (hc : st.cs[i]? = some c) (k : ∀ a u, H a = some u → a ≠ q.row i → H1 a = some u) (e : H1 (q.row i) = some (.lst [.ref l, .int (s : Int)])) (eo : H1 l = some (.lst (o.map V.int)))
    (nl : H l = none ∨ (l = q.ol i)) : MdAt H1 M (st.setc i ⟨o, s⟩) { q with ol := fun j => if j = i then l else q.ol j } := by
  have hil : i < st.cs.length := (List.getElem?_eq_some_iff.mp hc).1
  obtain ⟨c1, c2⟩ := h.cts i c hc
  have nr : ∀ {a u}, H a = some u → (∀ xs, u ≠ .lst xs) → a ≠ q.row i := fun ha hu => ne_of ha c1 (hu _)
  have el : (st.setc i ⟨o, s⟩).cs.length = st.cs.length := List.length_set
  have oi : (if i = i then l else q.ol i) = l := if_pos rfl
  have lx : ∀ {a u}, H a = some u → (q.ol i ≠ a) → l ≠ a := fun ha hn => by
    rcases nl with z | z
    · exact (ne_of_none ha z).symm
    · rw [z]; exact hn
  refine ⟨k _ _ h.dct (nr h.dct fun _ z => nomatch z), k _ _ h.tab (nr h.tab fun _ z => nomatch z), k _ _ h.sur (nr h.sur fun _ z => nomatch z), ?_, fun j x hx => ?_, ?_, h.n1, h.n2, h.n3, fun j hj => ?_, fun a b ha hb => h.n5 a b (by rw [← el]; exact ha) (by rw [← el]; exact hb), fun a b ha hb => ?_⟩
  · rw [el]
    exact k _ _ h.con (h.n4 i hil).1.symm
  · have hx : (st.cs.set i ⟨o, s⟩)[j]? = some x := hx
    rw [List.getElem?_set] at hx
    by_cases hij : i = j
    · subst hij
      rw [if_pos rfl, if_pos hil] at hx
      obtain rfl := Option.some.inj hx
      show _ = some (HO.lst [V.ref (if i = i then l else q.ol i), _]) ∧ H1 (if i = i then l else q.ol i) = _
      rw [oi]
      exact ⟨e, eo⟩
    · rw [if_neg hij] at hx
      obtain ⟨d1, d2⟩ := h.cts j x hx
      have hjl : j < st.cs.length := (List.getElem?_eq_some_iff.mp hx).1
      show _ = some (HO.lst [V.ref (if j = i then l else q.ol j), _]) ∧ H1 (if j = i then l else q.ol j) = _
      rw [if_neg fun z => hij z.symm]
      exact ⟨k _ _ d1 fun z => hij (h.n5 j i hjl hil z).symm, k _ _ d2 (h.n6 j i hjl hil)⟩
  · obtain ⟨xs, e, l, r⟩ := h.chs
    refine ⟨xs, k _ _ e (h.n4 i hil).2.1.symm, l, fun i c hc => ?_⟩
    obtain ⟨a, r, e1, e2, e3⟩ := r i c hc
    exact ⟨a, r, e1, k _ _ e2 (nr e2 (fun _ z => nomatch z)), e3⟩
  · rw [el] at hj
    obtain ⟨z1, z2, z3, z4⟩ := h.n4 j hj
    obtain ⟨y1, y2, y3, y4⟩ := h.n4 i hil
    obtain ⟨xs, ex, _⟩ := h.chs
    refine ⟨z1, z2, ?_, ?_⟩
    · show (if j = i then l else q.ol j) ≠ _
      by_cases e : j = i
      · rw [if_pos e]; exact lx h.con y3
      · rw [if_neg e]; exact z3
    · show (if j = i then l else q.ol j) ≠ _
      by_cases e : j = i
      · rw [if_pos e]; exact lx ex y4
      · rw [if_neg e]; exact z4
  · rw [el] at ha hb
    show (if a = i then l else q.ol a) ≠ _
    by_cases e : a = i
    · rw [if_pos e]
      exact lx (h.cts b _ (List.getElem?_eq_getElem hb)).1 (h.n6 i b hil hb)
    · rw [if_neg e]; exact h.n6 a b ha hb
def MP.add (q : MP) (n : Nat) (r l : Addr) : MP := { q with row := fun j => if j = n then r else q.row j, ol := fun j => if j = n then l else q.ol j }
theorem MdAt.addc (h : MdAt H M st q) {r l : Addr} (k : ∀ a u, H a = some u → a ≠ q.lc → H1 a = some u) (e : H1 q.lc = some (.lst (((List.range st.cs.length).map fun i => V.ref (q.row i)) ++ [.ref r]))) (er : H1 r = some (.lst [.ref l, .int 0])) (el : H1 l = some (.lst []))
    (nr : H r = none) (nl : H l = none) (nrl : l ≠ r) : MdAt H1 M st.addc (q.add st.cs.length r l) := by
  have ro : ∀ i, i < st.cs.length → (q.add st.cs.length r l).row i = q.row i := fun i hi => if_neg (Nat.ne_of_lt hi)
  have oo : ∀ i, i < st.cs.length → (q.add st.cs.length r l).ol i = q.ol i := fun i hi => if_neg (Nat.ne_of_lt hi)
  have rn : (q.add st.cs.length r l).row st.cs.length = r := if_pos rfl
  have on : (q.add st.cs.length r l).ol st.cs.length = l := if_pos rfl
  have len : st.addc.cs.length = st.cs.length + 1 := by
    show (st.cs ++ [_]).length = _
    rw [List.length_append]; rfl
  have nk : ∀ {a u}, H a = some u → (∀ xs, u ≠ .lst xs) → a ≠ q.lc := fun ha hu => ne_of ha h.con (hu _)
  have C1 : ∀ i, i < st.cs.length → H (q.row i) ≠ none ∧ H (q.ol i) ≠ none := fun i hi => by
    obtain ⟨c1, c2⟩ := h.cts i _ (List.getElem?_eq_getElem hi)
    exact ⟨fun z => (by rw [z] at c1; cases c1), fun z => (by rw [z] at c2; cases c2)⟩
  refine ⟨k _ _ h.dct (nk h.dct fun _ z => nomatch z), k _ _ h.tab (nk h.tab fun _ z => nomatch z), k _ _ h.sur (nk h.sur fun _ z => nomatch z), ?_, fun j x hx => ?_, ?_, h.n1, h.n2, h.n3, fun j hj => ?_, fun a b ha hb e => ?_, fun a b ha hb => ?_⟩
  · rw [len, List.range_succ, List.map_append]
    refine e.trans ?_
    congr 2
    congr 1
    · refine List.map_congr_left fun i hi => ?_
      rw [ro i (List.mem_range.mp hi)]
    · show [V.ref r] = [V.ref _]
      rw [rn]
  · have hx : (st.cs ++ [⟨[], 0⟩])[j]? = some x := hx
    rcases Nat.lt_trichotomy j st.cs.length with hj | hj | hj
    · rw [List.getElem?_append_left hj] at hx
      rw [ro j hj, oo j hj]
      obtain ⟨c1, c2⟩ := h.cts j x hx
      obtain ⟨z1, z2, z3, z4⟩ := h.n4 j hj
      exact ⟨k _ _ c1 z1, k _ _ c2 z3⟩
    · subst hj
      rw [List.getElem?_append_right (Nat.le_refl _), Nat.sub_self] at hx
      obtain rfl := Option.some.inj hx
      rw [rn, on]
      exact ⟨er, el⟩
    · rw [List.getElem?_eq_none (by rw [List.length_append]; show st.cs.length + 1 ≤ j; omega)] at hx
      cases hx
  · obtain ⟨xs, e, l, r⟩ := h.chs
    refine ⟨xs, k _ _ e h.n3.symm, l, fun i c hc => ?_⟩
    obtain ⟨a, r, e1, e2, e3⟩ := r i c hc
    exact ⟨a, r, e1, k _ _ e2 (nk e2 (fun _ z => nomatch z)), e3⟩
  · rw [len] at hj
    rcases Nat.lt_succ_iff_lt_or_eq.mp hj with z | z
    · rw [ro j z, oo j z]; exact h.n4 j z
    · obtain ⟨xs, ex, _⟩ := h.chs
      rw [z, rn, on]
      exact ⟨(ne_of_none h.con nr).symm, (ne_of_none ex nr).symm, (ne_of_none h.con nl).symm, (ne_of_none ex nl).symm⟩
  · rw [len] at ha hb
    rcases Nat.lt_succ_iff_lt_or_eq.mp ha with x | x <;> rcases Nat.lt_succ_iff_lt_or_eq.mp hb with y | y
    · rw [ro a x, ro b y] at e; exact h.n5 a b x y e
    · rw [ro a x, y, rn] at e; exact absurd (e ▸ nr) (C1 a x).1
    · rw [ro b y, x, rn] at e; exact absurd (e.symm ▸ nr) (C1 b y).1
    · omega
  · rw [len] at ha hb
    rcases Nat.lt_succ_iff_lt_or_eq.mp ha with x | x <;> rcases Nat.lt_succ_iff_lt_or_eq.mp hb with y | y
    · rw [oo a x, ro b y]; exact h.n6 a b x y
    · rw [oo a x, y, rn]; intro e; exact (C1 a x).2 (by rw [e]; exact nr)
    · rw [ro b y, x, on]; intro e; exact (C1 b y).1 (by rw [← e]; exact nl)
    · rw [x, y, on, rn]; exact nrl
end
inductive Dw where
  | app
  | syn
  | ren
  | rem
  | nms
def Dw.s : Dw → Str
  | .app => "append"
  | .syn => "sync"
  | .ren => "rename"
  | .rem => "remove"
  | .nms => "names"
inductive Did (st : DS) : Dw → Str → Str → List Int → DS → Prop where
  | app {n o : Str} {os : List Int} : n ∈ NM → Did st .app n o os (st.tick.app n os)
  | syn {n o : Str} {os : List Int} {i : Nat} {c : Cn} : tget st.tab n = some i → st.cs[i]? = some c → Did st .syn n o os (st.tick.setc i ⟨c.o, c.o.length⟩)
  | ren {n o : Str} {os : List Int} {i : Nat} : tget st.tab n = some i → o ∈ NM → Did st .ren n o os (st.tick.chgd (.ren n o i))
  | rem {n o : Str} {os : List Int} {i : Nat} : tget st.tab n = some i → Did st .rem n o os (st.tick.chgd (.rem n))
  | nms {n o : Str} {os : List Int} : Did st .nms n o os st.tick.syn
structure Bd (st : DS) (os : List Int) : Prop where
  o : ∀ c ∈ st.cs, c.o.length ≤ 900
  s : ∀ c ∈ st.cs, c.s ≤ c.o.length
  n : st.cs.length ≤ 900
  h : st.chg.length ≤ 900
  l : os.length ≤ 90
end K2

namespace K2
open PySem L2
theorem ft_td {M D a : Addr} {q : MP} {n : Nat} (h : ftM M { q with td := D } n a) : ftM M q n a ∨ a = D := by
  rcases h with h | h | h | h | h | h
  · exact .inl (.inl h)
  · exact .inr h
  · exact .inl (.inr (.inr (.inl h)))
  · exact .inl (.inr (.inr (.inr (.inl h))))
  · exact .inl (.inr (.inr (.inr (.inr (.inl h)))))
  · exact .inl (.inr (.inr (.inr (.inr (.inr h)))))
theorem ft_syn {M L a : Addr} {q : MP} {n : Nat} (h : ftM M { q with sd := q.td, cl := L } n a) : ftM M q n a ∨ a = L := by
  rcases h with h | h | h | h | h | h
  · exact .inl (.inl h)
  · exact .inl (.inr (.inl h))
  · exact .inl (.inr (.inl h))
  · exact .inl (.inr (.inr (.inr (.inl h))))
  · exact .inr h
  · exact .inl (.inr (.inr (.inr (.inr (.inr h)))))
theorem ft_ol {M l a : Addr} {q : MP} {n i : Nat} (h : ftM M { q with ol := fun j => if j = i then l else q.ol j } n a) : ftM M q n a ∨ a = l := by
  rcases h with h | h | h | h | h | ⟨j, hj, h | h⟩
  · exact .inl (.inl h)
  · exact .inl (.inr (.inl h))
  · exact .inl (.inr (.inr (.inl h)))
  · exact .inl (.inr (.inr (.inr (.inl h))))
  · exact .inl (.inr (.inr (.inr (.inr (.inl h)))))
  · exact .inl (.inr (.inr (.inr (.inr (.inr ⟨j, hj, .inl h⟩)))))
  · have h : a = if j = i then l else q.ol j := h
    by_cases z : j = i
    · rw [if_pos z] at h; exact .inr h
    · rw [if_neg z] at h; exact .inl (.inr (.inr (.inr (.inr (.inr ⟨j, hj, .inr h⟩)))))
theorem ft_add {M r l a : Addr} {q : MP} {n : Nat} (h : ftM M (q.add n r l) (n + 1) a) : ftM M q n a ∨ a = r ∨ a = l := by
  rcases h with h | h | h | h | h | ⟨j, hj, h | h⟩
  · exact .inl (.inl h)
  · exact .inl (.inr (.inl h))
  · exact .inl (.inr (.inr (.inl h)))
  · exact .inl (.inr (.inr (.inr (.inl h))))
  · exact .inl (.inr (.inr (.inr (.inr (.inl h)))))
  · have h : a = if j = n then r else q.row j := h
    by_cases z : j = n
    · rw [if_pos z] at h; exact .inr (.inl h)
    · rw [if_neg z] at h; exact .inl (.inr (.inr (.inr (.inr (.inr ⟨j, by omega, .inl h⟩)))))
  · have h : a = if j = n then l else q.ol j := h
    by_cases z : j = n
    · rw [if_pos z] at h; exact .inr (.inr h)
    · rw [if_neg z] at h; exact .inl (.inr (.inr (.inr (.inr (.inr ⟨j, by omega, .inr h⟩)))))
theorem gwn {F : Addr → Prop} {H H1 : Hp} {p : Addr} (o : Out F H H1) (n : H1 p = none) : F p ∨ H p = none := by
  by_cases z : F p
  · exact .inl z
  · cases e : H p with
    | none => exact .inr rfl
    | some u =>
      have := o p u e z
      rw [n] at this
      cases this
section
variable {P : Program} {w : World} {K : PySem.W.Frag} {mg : Str → Option Value} {base : Heap}
def spDeed : Sp := fun vs H Q _ => ∃ (M l : Addr) (st st' : DS) (q : MP) (d : Dw) (n o : Str) (os : List Int), vs = [.ref M, .str d.s, .str n, .str o, .ref l] ∧ MdAt H M st q ∧ Gd st ∧ Bd st os ∧ H l = some (.lst (os.map V.int)) ∧ ¬ ftM M q st.cs.length l ∧ Did st d n o os st' ∧
  (st.lim ≠ some 0 → ∀ H' q', Out (ftM M q st.cs.length) H H' → Gw (ftM M q st.cs.length) (ftM M q' st'.cs.length) H → MdAt H' M st' q' → Q (.bl true) H') ∧ (st.lim = some 0 → Q (.bl false) H)
theorem scDeed : FnScope ["model", "word", "name", "other", "octets", "contents", "row"] ["model", "word", "name", "other", "octets"] (defScope sLDeed) := ⟨rfl, rfl, rfl, by decide +kernel, rfl, by decide +kernel, by decide +kernel⟩
theorem ok_deed {f fM fT : Addr} {fd fdM fdT : FuncData} (F : Fun K "_law_deed" "_law_deed" sLDeed f fd) (N : Nm mg) (FT : Fun K "_law_turn" "_law_turn" sLTurn fT fdT) (bT : Binds K fdT ["model", "change"] []) (gT : mg "_law_turn" = some (.ref fT))
    (FM : Fun K "_law_moved" "_law_moved" sLMoved fM fdM) (bM : Binds K fdM ["table", "change"] []) (gM : mg "_law_moved" = some (.ref fM)) : FnOk P w K mg base CX0 3 f fd ["model", "word", "name", "other", "octets"] spDeed := by
  have GT : FnOk P w K mg base CX0 2 fT fdT ["model", "change"] spTurn := ok_turn FT FM bM gM
  refine F.ok scDeed (fun vs H Q E h => ?_) (fun cdv A outer s H vs Q E hr h => ?_)
  · obtain ⟨M, l, st, st', q, d, n, o, os, rfl, _⟩ := h
    rfl
  · obtain ⟨M, l, st, st', q, d, n, o, os, rfl, hd, gd, bd, hl, nfl, did, qq, qe⟩ := h
    have hu := hu_of hr
    refine ⟨_, pss_cons (ps_if (pt_cmpR op_eq (pe_dget hu (pv 0) pe_str (fun _ _ => rfl)) pe_int (nomark _)) (pss_one (ps_ret pe_bl)) pss_nil)
      (Evl.pss_cut (ps_if (pt_cmpR op_notN (pe_dget hu (pv 0) pe_str (fun _ _ => rfl)) pe_non (nomark _)) (pss_one (ps_dput hu (pv 0) pe_str (pe_op op_sub (pe_dget hu (pv 0) pe_str (fun _ _ => rfl)) pe_int) rfl)) pss_nil)
      (pss_cons (ps_dput hu (pv 0) pe_str (pe_op op_add (pe_dget hu (pv 0) pe_str (fun _ _ => rfl)) pe_int) rfl)
      (pss_cons (ps_set (i := 5) scDeed.nd rfl (.inl rfl) (pe_dget hu (pv 0) pe_str (fun _ _ => rfl)))
      (Evl.pss_cut (ps_if (pt_cmpR op_eq (pv 1) pe_str (nomark _))
          (Evl.pss_cut (ps_if (pt_cmp (pc_dnotin hu (pv 2) (pe_dget hu (pv 0) pe_str (fun _ _ => rfl))))
              (pss_cons (ps_expr (pe_bm PySem.F.plainAttrs_list PySem.F.slot_list_append PySem.F.type_list_append mt_append (pv 5) (pa_cons (pe_lst (pa_cons (pe_lst pa_nil) (pa_cons pe_int pa_nil))) pa_nil)))
              (pss_one (ps_expr (pe_call GT hr (by rfl) gT FT.kp bT .nil pass0 (pa_cons (pv 0) (pa_cons (pe_tup (pa_cons pe_str (pa_cons (pv 2) (pa_cons (pe_op op_sub (pe_callB call_len_seq (by rfl) N.len PySem.boot_len (pa_cons (pv 5) pa_nil)) pe_int) pa_nil)))) pa_nil)))))) pss_nil)
          (pss_cons (ps_set (i := 6) scDeed.nd rfl (.inl rfl) (pe_ix ix_list (pv 5) (pe_dget hu (pe_dget hu (pv 0) pe_str (fun _ _ => rfl)) (pv 2) (fun _ _ => rfl)) (fun _ _ => rfl)))
          (pss_one (ps_asg (pe_op op_cat (pe_ix ix_list (pv 6) pe_int (fun _ _ => rfl)) (pv 4)) (pg_sub (pv 6) pe_int set_list)))))
          (pss_one (ps_if (pt_cmpR op_eq (pv 1) pe_str (nomark _))
            (pss_cons (ps_set (i := 6) scDeed.nd rfl (.inl rfl) (pe_ix ix_list (pv 5) (pe_dget hu (pe_dget hu (pv 0) pe_str (fun _ _ => rfl)) (pv 2) (fun _ _ => rfl)) (fun _ _ => rfl)))
            (pss_one (ps_asg (pe_callB call_len_seq (by rfl) N.len PySem.boot_len (pa_cons (pe_ix ix_list (pv 6) pe_int (fun _ _ => rfl)) pa_nil)) (pg_sub (pv 6) pe_int set_list))))
            (pss_one (ps_if (pt_cmpR op_eq (pv 1) pe_str (nomark _))
              (pss_cons (ps_dput hu (pv 0) pe_str (pe_dget hu (pv 0) pe_str (fun _ _ => rfl)) rfl) (pss_one (ps_dput hu (pv 0) pe_str (pe_lst pa_nil) rfl)))
              (pss_one (ps_expr (pe_call GT hr (by rfl) gT FT.kp bT .nil pass0 (pa_cons (pv 0) (pa_cons (pe_tup (pa_cons (pv 1) (pa_cons (pv 2) (pa_cons (pv 3) pa_nil)))) pa_nil))))))))))
      (pss_one (ps_ret pe_bl)))))), ?_⟩
    have gk : ∀ {H : Hp} {q : MP} {st : DS} (k : Str) (v : V), H M = some (.dK (mdK q st)) → valV (mdK q st) (.inr k) = some v → DGet H M (.str k) (some v) := fun k v e z => by
      have := DGet.k (k := (Sum.inr k : Key)) e
      rwa [z] at this
    refine ⟨_, rfl, M, _, rfl, gk _ _ hd.dct md_l, ?_⟩
    by_cases hlim : st.lim = some 0
    · rw [hlim]
      exact ⟨rfl, _, rfl, iteT (qe hlim)⟩
    refine ⟨?_, _, rfl, iteBF ?_ ?_⟩
    · cases st.lim <;> rfl
    · refine decide_eq_false fun z => hlim ?_
      cases e : st.lim with
      | none => rw [e] at z; cases z
      | some m => rw [e] at z; have := V.int.inj z; rw [show m = 0 by omega]
    refine ⟨fun σ H1 => σ = [some (.ref M), some (.str d.s), some (.str n), some (.str o), some (.ref l), none, none] ∧ (∀ a u, H a = some u → a ≠ M → H1 a = some u) ∧ MdAt H1 M { st with lim := st.lim.map (· - 1) } q, ?_, ?_⟩
    · refine ⟨_, rfl, M, _, rfl, gk _ _ hd.dct md_l, ?_⟩
      cases e : st.lim with
      | none =>
        refine ⟨rfl, _, rfl, iteF ⟨rfl, fun a u z _ => z, ?_⟩⟩
        have : ({ st with lim := Option.map (· - 1) none } : DS) = st := by
          rw [show (Option.map (· - 1) none : Option Nat) = st.lim from e.symm]
        rw [this]
        exact hd
      | some m =>
        refine ⟨rfl, _, rfl, iteT ?_⟩
        have hm : m ≠ 0 := fun z => hlim (by rw [e, z])
        have g2 := gk _ _ hd.dct (md_l (q := q) (st := st))
        rw [e] at g2
        refine ⟨_, rfl, M, _, rfl, g2, _, _, rfl, rfl, _, rfl, M, _, rfl, DPut.k (k := (Sum.inr "limit" : Key)) hd.dct (by show 6 < sizeLine; decide), rfl, fun a u z nn => by rw [upd_ne nn]; exact z, ?_⟩
        refine hd.upM (l := some (m - 1)) (n := st.done) (fun a u z nn => by rw [upd_ne nn]; exact z) ?_
        rw [upd_same]
        show some (HO.dK (putK (mdK q st) (.inr "limit") (V.int ((m : Int) - 1)))) = _
        rw [show ((m : Int) - 1) = ((m - 1 : Nat) : Int) from by omega]
        exact congrArg (fun z => some (HO.dK z)) (md_pl (q := q) (st := st) (some (m - 1)))
    · rintro σ H1 ⟨rfl, k1, hd1⟩
      refine ⟨_, rfl, M, _, rfl, gk _ _ hd1.dct md_d, _, _, rfl, rfl, _, rfl, M, _, rfl, DPut.k (k := (Sum.inr "done" : Key)) hd1.dct (by show 6 < sizeLine; decide), ?_⟩
      have hd2 : MdAt (upd H1 M (.dK (putK (mdK q { st with lim := st.lim.map (· - 1) }) (.inr "done") (.int ((st.done : Int) + 1))))) M st.tick q := by
        refine hd1.upM (l := st.lim.map (· - 1)) (n := st.done + 1) (fun a u z nn => by rw [upd_ne nn]; exact z) ?_
        rw [upd_same]
        show some (HO.dK (putK (mdK q _) (.inr "done") (V.int ((st.done : Int) + 1)))) = _
        rw [show ((st.done : Int) + 1) = ((st.done + 1 : Nat) : Int) from by omega]
        exact congrArg (fun z => some (HO.dK z)) (md_pd (q := q) (st := { st with lim := st.lim.map (· - 1) }) (st.done + 1))
      have k2 : ∀ a u, H a = some u → a ≠ M → (upd H1 M (.dK (putK (mdK q { st with lim := st.lim.map (· - 1) }) (.inr "done") (.int ((st.done : Int) + 1))))) a = some u := fun a u e nn => by
        rw [upd_ne nn]
        exact k1 a u e nn
      generalize (upd H1 M (.dK (putK (mdK q { st with lim := st.lim.map (· - 1) }) (.inr "done") (.int ((st.done : Int) + 1))))) = H2 at hd2 k2
      have o2 : Out (ftM M q st.cs.length) H H2 := fun a u e nf => k2 a u e fun z => nf (.inl z)
      have hl2 := o2 _ _ hl nfl
      have gt := gd.tick
      have fr : ∀ {a}, H2 a = none → H a = none := fun {a} h => o2.free (fun c f => hd2.nf f) h
      have qt := qq hlim
      refine ⟨_, rfl, M, _, rfl, gk _ _ hd2.dct md_c, ?_⟩
      refine ⟨fun σ H3 => ∃ q', Out (ftM M q st.cs.length) H H3 ∧ Gw (ftM M q st.cs.length) (ftM M q' st'.cs.length) H ∧ MdAt H3 M st' q', ?_, fun σ H3 ⟨q', z1, z2, z3⟩ => qt H3 q' z1 z2 z3⟩
      have lt5 : ∀ t : Tb, TbOk st.cs.length t → t.length ≤ 10 := fun t h => by have := h.len; omega
      have tg : ∀ {H : Hp} {q : MP} {st : DS} {M : Addr}, MdAt H M st q → ∀ k, DGet H q.td (.str k) ((tget st.tab k).map gi) := fun h k => by
        have := DGet.k (k := (Sum.inr k : Key)) h.tab
        rwa [mp_get] at this
      have cx : ∀ {H : Hp} {q : MP} {st : DS} {M : Addr} {i : Nat}, MdAt H M st q → i < st.cs.length → atI ((List.range st.cs.length).map fun i => V.ref (q.row i)) ((i : Nat) : Int) = some (.ref (q.row i)) := fun {H q st M i} h hi => by
        refine atI_nat ?_
        rw [List.getElem?_map, List.getElem?_range hi]
        rfl
      cases did with
      | app hn =>
        refine ⟨_, rfl, rfl, _, rfl, iteT ?_⟩
        refine ⟨fun σ H3 => σ = [some (.ref M), some (.str Dw.app.s), some (.str n), some (.str o), some (.ref l), some (.ref q.lc), none] ∧ ∃ (q3 : MP) (st3 : DS) (i : Nat) (c : Cn), q3.lc = q.lc ∧ MdAt H3 M st3 q3 ∧ tget st3.tab n = some i ∧ st3.cs[i]? = some c ∧ st3.setc i ⟨c.o ++ os, c.s⟩ = st.tick.app n os ∧
          Out (ftM M q st.cs.length) H H3 ∧ Gw (ftM M q st.cs.length) (ftM M q3 st3.cs.length) H ∧ c.o.length ≤ 900, ?_, ?_⟩
        · refine ⟨_, rfl, _, rfl, M, _, rfl, gk _ _ hd2.dct md_t, q.td, _, rfl, tg hd2 n, _, rfl, ?_⟩
          cases e : tget st.tick.tab n with
          | some i =>
            have hil : i < st.cs.length := gd.T.ix _ (tget_mem e)
            refine iteF ⟨rfl, q, st.tick, i, st.cs[i], rfl, hd2, e, List.getElem?_eq_getElem hil, ?_, o2, Gw.refl, bd.o _ (List.getElem_mem hil)⟩
            unfold DS.app
            rw [e]
            show _ = match st.cs[i]? with | some c => st.tick.setc i ⟨c.o ++ os, c.s⟩ | none => st.tick
            rw [List.getElem?_eq_getElem hil]
          | none =>
            refine iteT ⟨_, rfl, .inl ⟨rfl, _, .inl (.inl hd2.con)⟩, Nat.zero_le _, fun l0 n0 => ⟨(by show 2 ≤ sizeLine; decide), fun r nr => ?_⟩⟩
            have sa : Same H2 (upd H2 l0 (.lst [])) := same_new n0
            have nr2 : H2 r = none := sa.free nr
            have nlr : l0 ≠ r := fun z => by rw [← z, upd_same] at nr; cases nr
            have sb : Same H2 (upd (upd H2 l0 (.lst [])) r (.lst [.ref l0, .int 0])) := sa.trans (same_new nr)
            have hcb := sb _ _ hd2.con
            have el0 : (upd (upd H2 l0 (.lst [])) r (.lst [.ref l0, .int 0])) l0 = some (.lst []) := by rw [upd_ne nlr, upd_same]
            have er : (upd (upd H2 l0 (.lst [])) r (.lst [.ref l0, .int 0])) r = some (.lst [.ref l0, .int 0]) := upd_same
            show ∃ _, _
            generalize (upd (upd H2 l0 (.lst [])) r (.lst [.ref l0, .int 0])) = Hb at sb hcb el0 er
            refine ⟨q.lc, _, _, rfl, rfl, hcb, ?_, ?_⟩
            · rw [List.length_map, List.length_range]
              exact small1000 (by have := bd.n; show st.cs.length ≤ 1000; omega)
            have nlc0 : l0 ≠ q.lc := (ne_of_none hd2.con n0).symm
            have nlcr : r ≠ q.lc := (ne_of_none hd2.con nr2).symm
            have hda := hd2.addc (r := r) (l := l0) (H1 := upd Hb q.lc (.lst (((List.range st.tick.cs.length).map fun i => V.ref (q.row i)) ++ [.ref r]))) (fun a u e nn => by rw [upd_ne nn]; exact sb _ _ e) upd_same (by rw [upd_ne nlcr]; exact er) (by rw [upd_ne nlc0]; exact el0) nr2 n0 nlr
            have oc : Out (ftM M q st.cs.length) H (upd Hb q.lc (.lst (((List.range st.tick.cs.length).map fun i => V.ref (q.row i)) ++ [.ref r]))) := fun a u e nf => by
              rw [upd_ne fun z => nf (.inr (.inr (.inr (.inl z))))]
              exact sb _ _ (o2 _ _ e nf)
            have lca : (upd Hb q.lc (.lst (((List.range st.tick.cs.length).map fun i => V.ref (q.row i)) ++ [.ref r]))) q.lc = some (.lst (((List.range st.tick.cs.length).map fun i => V.ref (q.row i)) ++ [.ref r])) := upd_same
            generalize (upd Hb q.lc (.lst (((List.range st.tick.cs.length).map fun i => V.ref (q.row i)) ++ [.ref r]))) = Hc at hda oc lca
            refine ⟨_, rfl, _, rfl, _, rfl, q.lc, _, rfl, .inl (.inl (.inl lca)), _, _, rfl, rfl, (by show 3 ≤ sizeLine; decide), fun t nt => ?_⟩
            refine ⟨M, t, st.tick.addc, q.add st.cs.length r l0, .make n st.cs.length, _, rfl, hda.same (same_new nt), upd_same, ?_, trivial, gt.T.nd, lt5 _ gt.T, bd.h, fun H4 D o4 nD hd4 => ⟨rfl, { q.add st.cs.length r l0 with td := D }, st.tick.addc.chgd (.make n st.cs.length), st.cs.length, ⟨[], 0⟩, rfl, hd4, tget_put _ _ _, ?_, ?_, ?_, ?_, (by show 0 ≤ 900; decide)⟩⟩
            · show [V.str "make", V.str n, V.int _] = [V.str "make", V.str n, V.int _]
              congr 3
              rw [List.length_append, List.length_map, List.length_range, List.length_singleton]
              show V.int (((st.cs.length + 1 : Nat) : Int) - 1) = V.int _
              congr 1
              omega
            · show (st.cs ++ [_])[st.cs.length]? = _
              rw [List.getElem?_append_right (Nat.le_refl _), Nat.sub_self]
              rfl
            · unfold DS.app
              rw [e]
              rfl
            · have lel : st.tick.addc.cs.length = st.cs.length + 1 := by
                show (st.cs ++ [_]).length = _
                rw [List.length_append]; rfl
              intro a u eu nf
              refine o4 a u (same_new nt _ _ (oc a u eu nf)) fun f => ?_
              rw [lel] at f
              rcases ft_add f with z | z | z
              · exact nf z
              · rw [z, fr nr2] at eu; cases eu
              · rw [z, fr n0] at eu; cases eu
            · have lel : (st.tick.addc.chgd (.make n st.cs.length)).cs.length = st.cs.length + 1 := by
                show (st.cs ++ [_]).length = _
                rw [List.length_append]; rfl
              intro a f
              rw [lel] at f
              rcases ft_td f with f | f
              · rcases ft_add f with z | z | z
                · exact .inl z
                · exact .inr (by rw [z]; exact fr nr2)
                · exact .inr (by rw [z]; exact fr n0)
              · rw [f]
                exact gwn (fun a u eu nf => same_new nt _ _ (oc a u eu nf)) nD
        · rintro σ H3 ⟨rfl, q3, st3, i, c, elc, hd3, ht3, hc3, e3, o3, w3, hcl⟩
          have hil : i < st3.cs.length := (List.getElem?_eq_some_iff.mp hc3).1
          obtain ⟨c1, c2⟩ := hd3.cts i c hc3
          have g3 := tg hd3 n
          rw [ht3] at g3
          have con3 := hd3.con
          rw [elc] at con3
          have hl3 := o3 _ _ hl nfl
          refine ⟨_, rfl, _, rfl, M, _, rfl, gk _ _ hd3.dct md_t, _, rfl, q3.td, _, rfl, g3, q.lc, _, _, _, rfl, rfl, .inl (.inl con3), cx hd3 hil, ?_⟩
          refine ⟨_, rfl, q3.row i, _, 0, .ref (q3.ol i), rfl, rfl, .inl (.inl c1), rfl, _, rfl, q3.ol i, l, _, _, rfl, rfl, c2, hl3, ?_, fun p np => ?_⟩
          · rw [List.length_map, List.length_map]
            exact Nat.le_of_lt (small1000 (by have := bd.l; omega))
          refine ⟨_, rfl, q3.row i, _, 0, 0, rfl, rfl, by rw [upd_ne (ne_of_none c1 np)]; exact c1, rfl, ?_⟩
          have npr : p ≠ q3.row i := (ne_of_none c1 np).symm
          have hset := hd3.setR (o := c.o ++ os) (s := c.s) (l := p) (H1 := upd (upd H3 p (.lst (c.o.map V.int ++ os.map V.int))) (q3.row i) (.lst ([V.ref (q3.ol i), V.int (c.s : Int)].set 0 (.ref p)))) hc3 (fun a u e nn => by rw [upd_ne nn, upd_ne (ne_of_none e np)]; exact e) upd_same (by rw [upd_ne npr, upd_same, List.map_append]) (.inl np)
          rw [e3] at hset
          refine ⟨_, ?_, ?_, hset⟩
          · intro a u eu nf
            have h3 := o3 a u eu nf
            have m : a ≠ q3.row i := fun z => by
              rcases w3 a (.inr (.inr (.inr (.inr (.inr ⟨i, hil, .inl z⟩))))) with y | y
              · exact nf y
              · rw [y] at eu; cases eu
            rw [upd_ne m, upd_ne (ne_of_none h3 np)]
            exact h3
          · rw [← e3, setc_len]
            intro a f
            rcases ft_ol f with f | f
            · exact w3 a f
            · rw [f]; exact gwn o3 np
      | @syn _ _ _ i c ht hc =>
        refine ⟨_, rfl, rfl, _, rfl, iteF ⟨_, rfl, rfl, _, rfl, iteT ?_⟩⟩
        have hil : i < st.cs.length := (List.getElem?_eq_some_iff.mp hc).1
        obtain ⟨c1, c2⟩ := hd2.cts i c hc
        have g3 := tg hd2 n
        rw [show tget st.tick.tab n = some i from ht] at g3
        refine ⟨_, rfl, _, rfl, M, _, rfl, gk _ _ hd2.dct md_t, _, rfl, q.td, _, rfl, g3, q.lc, _, _, _, rfl, rfl, .inl (.inl hd2.con), cx hd2 hil, ?_⟩
        refine ⟨_, rfl, q.row i, _, 0, .ref (q.ol i), rfl, rfl, .inl (.inl c1), rfl, q.ol i, _, rfl, .inl (.inl (.inl c2)), _, rfl, q.row i, _, 1, 1, rfl, rfl, c1, rfl, ?_⟩
        have hset := hd2.setR (o := c.o) (s := c.o.length) (l := q.ol i) (H1 := upd H2 (q.row i) (.lst ([V.ref (q.ol i), V.int (c.s : Int)].set 1 (.int ((c.o.map V.int).length : Int))))) hc (fun a u e nn => by rw [upd_ne nn]; exact e) (by rw [upd_same, List.length_map]; rfl) (by rw [upd_ne (hd2.n6 i i hil hil)]; exact c2) (.inr rfl)
        refine ⟨_, ?_, ?_, hset⟩
        · intro a u eu nf
          rw [upd_ne fun z => nf (.inr (.inr (.inr (.inr (.inr ⟨i, hil, .inl z⟩)))))]
          exact o2 a u eu nf
        · rw [setc_len]
          intro a f
          rcases ft_ol f with f | f
          · exact .inl f
          · exact .inl (.inr (.inr (.inr (.inr (.inr ⟨i, hil, .inr f⟩)))))
      | @ren _ _ _ i ht ho =>
        refine ⟨_, rfl, rfl, _, rfl, iteF ⟨_, rfl, rfl, _, rfl, iteF ⟨_, rfl, rfl, _, rfl, iteF ?_⟩⟩⟩
        refine ⟨_, rfl, _, rfl, _, rfl, _, rfl, (by show 3 ≤ sizeLine; decide), fun t nt => ?_⟩
        refine ⟨M, t, st.tick, q, .ren n o i, _, rfl, hd2.same (same_new nt), upd_same, rfl, ht, gt.T.nd, lt5 _ gt.T, bd.h, fun H4 D o4 nD hd4 => ?_⟩
        have o24 : Out (ftM M q st.cs.length) H H4 := fun a u eu nf => o4 _ _ (same_new nt _ _ (o2 a u eu nf)) nf
        refine ⟨_, o24, fun a f => ?_, hd4⟩
        rcases ft_td f with f | f
        · exact .inl f
        · rw [f]
          exact gwn (fun a u eu nf => same_new nt _ _ (o2 a u eu nf)) nD
      | @rem _ _ _ i ht =>
        refine ⟨_, rfl, rfl, _, rfl, iteF ⟨_, rfl, rfl, _, rfl, iteF ⟨_, rfl, rfl, _, rfl, iteF ?_⟩⟩⟩
        refine ⟨_, rfl, _, rfl, _, rfl, _, rfl, (by show 3 ≤ sizeLine; decide), fun t nt => ?_⟩
        refine ⟨M, t, st.tick, q, .rem n, _, rfl, hd2.same (same_new nt), upd_same, ⟨o, rfl⟩, ⟨i, ht⟩, gt.T.nd, lt5 _ gt.T, bd.h, fun H4 D o4 nD hd4 => ?_⟩
        have o24 : Out (ftM M q st.cs.length) H H4 := fun a u eu nf => o4 _ _ (same_new nt _ _ (o2 a u eu nf)) nf
        refine ⟨_, o24, fun a f => ?_, hd4⟩
        rcases ft_td f with f | f
        · exact .inl f
        · rw [f]
          exact gwn (fun a u eu nf => same_new nt _ _ (o2 a u eu nf)) nD
      | nms =>
        refine ⟨_, rfl, rfl, _, rfl, iteF ⟨_, rfl, rfl, _, rfl, iteF ⟨_, rfl, rfl, _, rfl, iteT ?_⟩⟩⟩
        refine ⟨_, rfl, M, _, rfl, gk _ _ hd2.dct md_t, _, rfl, M, _, rfl, DPut.k (k := (Sum.inr "sure" : Key)) hd2.dct (by show 6 < sizeLine; decide), ?_⟩
        rw [md_ps]
        refine ⟨Nat.zero_le _, fun L nL => ?_⟩
        have nLM : L ≠ M := fun z => by rw [z, upd_same] at nL; cases nL
        have nL2 : H2 L = none := by rw [upd_ne nLM] at nL; exact nL
        refine ⟨_, rfl, M, _, rfl, DPut.k (k := (Sum.inr "changes" : Key)) (by rw [upd_ne nLM.symm, upd_same]) (by show 6 < sizeLine; decide), ?_⟩
        rw [md_ph]
        have hs := hd2.syn (L := L) (H1 := upd (upd (upd H2 M (.dK (mdK { q with sd := q.td } st.tick))) L (.lst [])) M (.dK (mdK { q with sd := q.td, cl := L } st.tick))) (fun a u e nn => by rw [upd_ne nn, upd_ne (ne_of_none e nL2), upd_ne nn]; exact e) nL2 upd_same (by rw [upd_ne nLM, upd_same])
        refine ⟨_, fun a u eu nf => ?_, fun a f => ?_, hs⟩
        · have m : a ≠ M := fun z => nf (.inl z)
          have h2 := o2 a u eu nf
          rw [upd_ne m, upd_ne (ne_of_none h2 nL2), upd_ne m]
          exact h2
        · rcases ft_syn f with f | f
          · exact .inl f
          · rw [f]; exact .inr (fr nL2)
end
end K2

namespace K2
open PySem L2
structure DoneF (P : Program) (w : World) (K : PySem.W.Frag) (mg : Str → Option Value) (base : Heap) (CD CC CE fI : Addr) where
  (fA fS fR fM fN : Addr)
  (dA dS dR dM dN : FuncData)
  GA : FnOk P w K mg base (L2.CX P w) 4 fA dA ["self", "name", "octets"] (spAppend CD CC CE)
  bA : Binds K dA ["self", "name", "octets"] []
  mA : Meth K CD "append" fA
  GS : FnOk P w K mg base (L2.CX P w) 4 fS dS ["self", "name"] (spSync CD CC CE)
  bS : Binds K dS ["self", "name"] []
  mS : Meth K CD "sync" fS
  GR : FnOk P w K mg base (L2.CX P w) 4 fR dR ["self", "old", "new"] (spRename CD CC CE)
  bR : Binds K dR ["self", "old", "new"] []
  mR : Meth K CD "rename" fR
  GM : FnOk P w K mg base (L2.CX P w) 4 fM dM ["self", "name"] (spRemove CD CC CE)
  bM : Binds K dM ["self", "name"] []
  mM : Meth K CD "remove" fM
  GN : FnOk P w K mg base (L2.CX P w) 4 fN dN ["self"] (spSyncN CD CC CE)
  bN : Binds K dN ["self"] []
  mN : Meth K CD "sync_names" fN
  clD : Cls K CD
  gE : mg "PowerLost" = some (.ref CE)
  ex : PySem.W.exmOne K (.ref CE) (.ref CE) = some true
  E : ErrC K CE fI "PowerLost"
section
variable {P : Program} {w : World} {K : PySem.W.Frag} {mg : Str → Option Value} {base : Heap}
def spDone2 (CD CC : Addr) : Sp := fun vs H Q _ => ∃ (x l : Addr) (st st' : DS) (p : DP) (d : Dw) (n o : Str) (os : List Int), vs = [.ref x, .str d.s, .str n, .str o, .ref l] ∧ DkAt CD CC H x st p ∧ Gd st ∧ Bd st os ∧ H l = some (.lst (os.map V.int)) ∧ ¬ foot x p st.cs.length l ∧ Did st d n o os st' ∧
  (st.lim ≠ some 0 → ∀ H' p', Out (foot x p st.cs.length) H H' → Gw (foot x p st.cs.length) (foot x p' st'.cs.length) H → DkAt CD CC H' x st' p' → Gd st' → Q .non H') ∧ (st.lim = some 0 → ∀ H', Same H H' → Q (.int (st.done : Int)) H')
theorem scDone2 : FnScope ["disk", "word", "name", "other", "octets", "e"] ["disk", "word", "name", "other", "octets"] (defScope sLDone) := ⟨rfl, rfl, rfl, by decide +kernel, rfl, by decide +kernel, by decide +kernel⟩
theorem ok_done2 {f CD CC CE fI : Addr} {fd : FuncData} (F : Fun K "_law_done" "_law_done" sLDone f fd) (N : Nm mg) (Z : DoneF P w K mg base CD CC CE fI) : FnOk P w K mg base CX0 5 f fd ["disk", "word", "name", "other", "octets"] (spDone2 CD CC) := by
  have GA := Z.GA
  have GS := Z.GS
  have GR := Z.GR
  have GM := Z.GM
  have GN := Z.GN
  refine F.ok scDone2 (fun vs H Q E h => ?_) (fun cdv A outer s H vs Q Ex hr h => ?_)
  · obtain ⟨x, l, st, st', p, d, n, o, os, rfl, _⟩ := h
    rfl
  · obtain ⟨x, l, st, st', p, d, n, o, os, rfl, hd, gd, bd, hl, nfl, did, q, qe⟩ := h
    refine ⟨_, pss_cons (ps_try_as (i := 5) (Wout := fun _ _ _ _ => False) rfl rfl scDone2.nd rfl rfl ⟨rfl, by decide, Or.inl Z.gE⟩ takes0
      (fun W pn xe tk _ => pss_one (ps_if (pt_cmpR op_eq (pv 1) pe_str (nomark _)) (pss_one (ps_expr (pe_methX (pv 0) Z.clD Z.mA GA hr Z.bA (fun σ => passAt tk σ) (pa_cons (pv 2) (pa_cons (pv 4) pa_nil)))))
        (pss_one (ps_if (pt_cmpR op_eq (pv 1) pe_str (nomark _)) (pss_one (ps_expr (pe_methX (pv 0) Z.clD Z.mS GS hr Z.bS (fun σ => passAt tk σ) (pa_cons (pv 2) pa_nil))))
        (pss_one (ps_if (pt_cmpR op_eq (pv 1) pe_str (nomark _)) (pss_one (ps_expr (pe_methX (pv 0) Z.clD Z.mR GR hr Z.bR (fun σ => passAt tk σ) (pa_cons (pv 2) (pa_cons (pv 3) pa_nil)))))
        (pss_one (ps_if (pt_cmpR op_eq (pv 1) pe_str (nomark _)) (pss_one (ps_expr (pe_methX (pv 0) Z.clD Z.mM GM hr Z.bM (fun σ => passAt tk σ) (pa_cons (pv 2) pa_nil))))
          (pss_one (ps_expr (pe_methX0 (pv 0) Z.clD Z.mN GN hr Z.bN (fun σ => passAt tk σ))))))))))))
      (fun a oe cls d pn hz hf => pss_one (ps_ret (pe_xf Z.E.xf Z.E.noP hz hf (pv 5))))) (pss_one (ps_ret pe_non)), ?_⟩
    obtain ⟨dx, hi⟩ := hd.inst'
    have er : ∀ {H' : Hp} {e : Addr}, st.lim = some 0 → Same H H' → H' e = some (errD st.done) → Q (.int (st.done : Int)) H' := fun h s _ => qe h _ s
    cases did with
    | app hn =>
      refine ⟨_, rfl, rfl, _, rfl, iteT ?_⟩
      refine ⟨_, rfl, x, dx, _, rfl, hi, rfl, _, rfl, _, rfl, x, l, st, p, n, os, rfl, hd, gd, hl, nfl, hn, bd.o, bd.l, bd.h, fun hlim H' p' o g dk gg => q hlim H' p' o g dk gg, fun hlim H' e s ne he => ?_⟩
      refine ⟨true, Z.ex, fun _ e0 ne0 => ?_, fun z => Bool.noConfusion z⟩
      exact ⟨_, rfl, rfl, rfl, e, _, .int (st.done : Int), rfl, he, (by rw [lookup_put, if_neg (by decide +kernel), lookup_put, if_pos rfl]), er hlim s he⟩
    | @syn _ _ _ i c ht hc =>
      refine ⟨_, rfl, rfl, _, rfl, iteF ⟨_, rfl, rfl, _, rfl, iteT ?_⟩⟩
      refine ⟨_, rfl, x, dx, _, rfl, hi, rfl, _, rfl, x, st, p, n, i, c, rfl, hd, gd, ht, hc, fun hlim H' p' o g dk gg => q hlim H' p' o g dk gg, fun hlim H' e s ne he => ?_⟩
      refine ⟨true, Z.ex, fun _ e0 ne0 => ?_, fun z => Bool.noConfusion z⟩
      exact ⟨_, rfl, rfl, rfl, e, _, .int (st.done : Int), rfl, he, (by rw [lookup_put, if_neg (by decide +kernel), lookup_put, if_pos rfl]), er hlim s he⟩
    | @ren _ _ _ i ht ho =>
      refine ⟨_, rfl, rfl, _, rfl, iteF ⟨_, rfl, rfl, _, rfl, iteF ⟨_, rfl, rfl, _, rfl, iteT ?_⟩⟩⟩
      refine ⟨_, rfl, x, dx, _, rfl, hi, rfl, _, rfl, _, rfl, x, st, p, n, o, i, rfl, hd, gd, ht, ho, bd.h, fun hlim H' p' o g dk gg => q hlim H' p' o g dk gg, fun hlim H' e s ne he => ?_⟩
      refine ⟨true, Z.ex, fun _ e0 ne0 => ?_, fun z => Bool.noConfusion z⟩
      exact ⟨_, rfl, rfl, rfl, e, _, .int (st.done : Int), rfl, he, (by rw [lookup_put, if_neg (by decide +kernel), lookup_put, if_pos rfl]), er hlim s he⟩
    | @rem _ _ _ i ht =>
      refine ⟨_, rfl, rfl, _, rfl, iteF ⟨_, rfl, rfl, _, rfl, iteF ⟨_, rfl, rfl, _, rfl, iteF ⟨_, rfl, rfl, _, rfl, iteT ?_⟩⟩⟩⟩
      refine ⟨_, rfl, x, dx, _, rfl, hi, rfl, _, rfl, x, st, p, n, i, rfl, hd, gd, ht, bd.h, fun hlim H' p' o g dk gg => q hlim H' p' o g dk gg, fun hlim H' e s ne he => ?_⟩
      refine ⟨true, Z.ex, fun _ e0 ne0 => ?_, fun z => Bool.noConfusion z⟩
      exact ⟨_, rfl, rfl, rfl, e, _, .int (st.done : Int), rfl, he, (by rw [lookup_put, if_neg (by decide +kernel), lookup_put, if_pos rfl]), er hlim s he⟩
    | nms =>
      refine ⟨_, rfl, rfl, _, rfl, iteF ⟨_, rfl, rfl, _, rfl, iteF ⟨_, rfl, rfl, _, rfl, iteF ⟨_, rfl, rfl, _, rfl, iteF ?_⟩⟩⟩⟩
      refine ⟨_, rfl, x, dx, _, rfl, hi, rfl, x, st, p, rfl, hd, gd, fun hlim H' p' o g dk gg => q hlim H' p' o g dk gg, fun hlim H' e s ne he => ?_⟩
      refine ⟨true, Z.ex, fun _ e0 ne0 => ?_, fun z => Bool.noConfusion z⟩
      exact ⟨_, rfl, rfl, rfl, e, _, .int (st.done : Int), rfl, he, (by rw [lookup_put, if_neg (by decide +kernel), lookup_put, if_pos rfl]), er hlim s he⟩
end
end K2

namespace K2
open PySem L2
def RAt (H : Hp) (R : Addr) (cs : List Int) (k : Nat) : Prop := ∃ m, k ≤ m ∧ H R = some (.lst ((cs ++ List.replicate m 0).map V.int))
theorem cutM1 (xs : List V) (v : V) : cutV (xs ++ [v]) none (some (-1)) = xs := by
  unfold cutV
  rw [show HT.sIx (xs ++ [v]).length 0 none = 0 from rfl, List.drop_zero, Nat.sub_zero]
  unfold HT.sIx
  show (xs ++ [v]).take (if (-1 : Int) < 0 then ((-1 : Int) + ((xs ++ [v]).length : Int)).toNat else _) = xs
  rw [if_pos (by decide), List.length_append, List.length_singleton, show ((-1 : Int) + ((xs.length + 1 : Nat) : Int)).toNat = xs.length from by omega, List.take_append_of_le_length (Nat.le_refl _), List.take_length]
theorem six0 {n : Nat} (h : 0 < n) : seqIndex? 0 n = some 0 := by
  have := seqIndex_of (k := 0) (n := n) (by decide) (by omega)
  exact this
theorem RAt.pop {H : Hp} {R : Addr} {cs : List Int} {k : Nat} (h : RAt H R cs (k + 1)) : ∃ xs : List V, H R = some (.lst xs) ∧ seqIndex? 0 xs.length = some 0 ∧ xs[0]? = some (.int (cs.head?.getD 0)) ∧ ∀ H', H' R = some (.lst (xs.eraseIdx 0)) → RAt H' R cs.tail k := by
  obtain ⟨m, hm, e⟩ := h
  cases cs with
  | nil =>
    obtain ⟨n, rfl⟩ : ∃ n, m = n + 1 := ⟨m - 1, by omega⟩
    exact ⟨_, e, six0 (by rw [List.length_map, List.length_append, List.length_replicate]; omega), rfl, fun H' h => ⟨n, by omega, h⟩⟩
  | cons c r => exact ⟨_, e, six0 (by rw [List.length_map]; exact Nat.succ_pos _), rfl, fun H' h => ⟨m, by omega, h⟩⟩
def FlAt (N : Addr → Prop) (H : Hp) (F : Addr) (ps : Fl) : Prop := ∃ kvs : List (Key × V), H F = some (.dK kvs) ∧ kvs.length = ps.length ∧ ∀ (i : Nat) (q : Str × List Int), ps[i]? = some q → ∃ a : Addr, kvs[i]? = some ((Sum.inr q.1 : Key), V.ref a) ∧ H a = some (.lst (q.2.map V.int)) ∧ ¬ N a
theorem FlAt.names {N : Addr → Prop} {kvs : List (Key × V)} {H : Hp} {ps : Fl} (hl : kvs.length = ps.length) (h : ∀ (i : Nat) (q : Str × List Int), ps[i]? = some q → ∃ a : Addr, kvs[i]? = some ((Sum.inr q.1 : Key), V.ref a) ∧ H a = some (.lst (q.2.map V.int)) ∧ ¬ N a) : kvs.map (·.1) = (ps.map (fun q : Str × List Int => q.1)).map Sum.inr := by
  refine List.ext_getElem? fun i => ?_
  rw [List.getElem?_map, List.getElem?_map, List.getElem?_map]
  by_cases hi : i < ps.length
  · obtain ⟨a, e, _⟩ := h i ps[i] (List.getElem?_eq_getElem hi)
    rw [e, List.getElem?_eq_getElem hi]
    rfl
  · rw [List.getElem?_eq_none (by omega), List.getElem?_eq_none (by omega)]
    rfl
theorem FlAt.put {N : Addr → Prop} {H H1 : Hp} {F a : Addr} {ps : Fl} {n : Str} {os : List Int} {kvs : List (Key × V)} (hl : kvs.length = ps.length) (h : ∀ (i : Nat) (q : Str × List Int), ps[i]? = some q → ∃ a : Addr, kvs[i]? = some ((Sum.inr q.1 : Key), V.ref a) ∧ H a = some (.lst (q.2.map V.int)) ∧ ¬ N a)
    (hn : n ∉ ps.map (fun q : Str × List Int => q.1)) (k : ∀ a xs, H a = some (.lst xs) → ¬ N a → H1 a = some (.lst xs)) (na : ¬ N a) (ha : H1 a = some (.lst (os.map V.int))) (hF : H1 F = some (.dK (putK kvs (.inr n) (.ref a)))) : FlAt N H1 F (ps ++ [(n, os)]) := by
  have e : putK kvs (.inr n) (V.ref a) = kvs ++ [((Sum.inr n : Key), V.ref a)] := by
    refine gap_putK ?_
    rw [FlAt.names hl h]
    intro z
    obtain ⟨b, hb, e⟩ := List.mem_map.mp z
    exact hn (by rw [← show b = n from Sum.inr.inj e]; exact hb)
  rw [e] at hF
  refine ⟨_, hF, by rw [List.length_append, List.length_append, hl]; rfl, fun i q hq => ?_⟩
  rcases Nat.lt_trichotomy i ps.length with hi | hi | hi
  · rw [List.getElem?_append_left hi] at hq
    obtain ⟨b, z1, z2, z3⟩ := h i q hq
    exact ⟨b, by rw [List.getElem?_append_left (by omega)]; exact z1, k _ _ z2 z3, z3⟩
  · subst hi
    rw [List.getElem?_append_right (Nat.le_refl _), Nat.sub_self] at hq
    obtain rfl := Option.some.inj hq
    exact ⟨a, by rw [List.getElem?_append_right (by omega), hl, Nat.sub_self]; rfl, ha, na⟩
  · rw [List.getElem?_eq_none (by rw [List.length_append]; show ps.length + 1 ≤ i; omega)] at hq
    cases hq
theorem FlAt.weak {N : Addr → Prop} {H H1 : Hp} {F : Addr} {ps : Fl} (h : FlAt N H F ps) (s : Same H H1) : FlAt (fun _ => False) H1 F ps := by
  obtain ⟨kvs, e, hl, f⟩ := h
  refine ⟨kvs, s _ _ e, hl, fun i q hq => ?_⟩
  obtain ⟨a, z1, z2, _⟩ := f i q hq
  exact ⟨a, z1, s _ _ z2, fun z => z⟩
section
variable {P : Program} {w : World} {K : PySem.W.Frag} {mg : Str → Option Value} {base : Heap}
def spLost : Sp := fun vs H Q _ => ∃ (M ch : Addr) (st : DS) (q : MP) (cs : List Int), vs = [.ref M, .ref ch] ∧ MdAt H M st q ∧ Gd st ∧ Bd st [] ∧ H ch = some (.lst (cs.map V.int)) ∧ cs.length ≤ 100 ∧
  ∀ H' F, Same H H' → H F = none → FlAt (fun _ => False) H' F (lsP st cs) → Q (.ref F) H'
theorem scLost : FnScope ["model", "choices", "rest", "table", "change", "found", "name", "octets", "sure", "count", "left"] ["model", "choices"] (defScope sLLost) := ⟨rfl, rfl, rfl, by decide +kernel, rfl, by decide +kernel, by decide +kernel⟩
theorem ok_lost {f fM : Addr} {fd fdM : FuncData} (F : Fun K "_law_lost" "_law_lost" sLLost f fd) (N : Nm mg) (FM : Fun K "_law_moved" "_law_moved" sLMoved fM fdM) (bM : Binds K fdM ["table", "change"] []) (gM : mg "_law_moved" = some (.ref fM)) : FnOk P w K mg base CX0 2 f fd ["model", "choices"] spLost := by
  have GM : FnOk P w K mg base CX0 1 fM fdM ["table", "change"] spMoved := ok_moved FM
  refine F.ok scLost (fun vs H Q E h => ?_) (fun cdv A outer s H vs Q E hr h => ?_)
  · obtain ⟨M, ch, st, q, cs, rfl, _⟩ := h
    rfl
  · obtain ⟨M, ch, st, q, cs, rfl, hd, gd, bd, hch, hcl, qq⟩ := h
    have hu := hu_of hr
    refine ⟨_, pss_cons (ps_set (i := 2) scLost.nd rfl (.inl rfl) (pe_op op_cat (pe_callTy call_list_of (by rfl) N.list (by decide +kernel) (pa_cons (pv 1) pa_nil)) (pe_op op_rep (pe_lst (pa_cons pe_int pa_nil)) pe_int)))
      (pss_cons (ps_set (i := 3) scLost.nd rfl (.inl rfl) (pe_dget hu (pv 0) pe_str (fun _ _ => rfl)))
      (Evl.pss_cut (ps_for PassesOwn.never rfl (pi_list (pe_slice sl_list (pe_dget hu (pv 0) pe_str (fun _ _ => rfl)) po_none (po_some (pe_op op_mod (pe_bm PySem.F.plainAttrs_list PySem.F.slot_list_pop PySem.F.type_list_pop mt_popAt (pv 2) (pa_cons pe_int pa_nil)) (pe_op op_add (pe_callB call_len_seq (by rfl) N.len PySem.boot_len (pa_cons (pe_dget hu (pv 0) pe_str (fun _ _ => rfl)) pa_nil)) pe_int)))))
          (pg_name (i := 4) scLost.nd rfl (.inl rfl)) (pss_one (ps_set (i := 3) scLost.nd rfl (.inl rfl) (pe_call GM hr (by rfl) gM FM.kp bM .nil pass0 (pa_cons (pv 3) (pa_cons (pv 4) pa_nil))))))
      (pss_cons (ps_set (i := 5) scLost.nd rfl (.inl rfl) pe_dnewK)
      (pss_cons (ps_for PassesOwn.never rfl (pi_list (pe_callB (call_sortedD rfl) (by rfl) N.sorted (by decide +kernel) (pa_cons (pv 3) pa_nil))) (pg_name (i := 6) scLost.nd rfl (.inl rfl))
          (pss_cons (ps_asg (pe_ix ix_list (pe_dget hu (pv 0) pe_str (fun _ _ => rfl)) (pe_dget hu (pv 3) (pv 6) (fun _ _ => rfl)) (fun _ _ => rfl)) (pg_lst (by rfl) (pgs_cons (pg_name (i := 7) scLost.nd rfl (.inl rfl)) (pgs_cons (pg_name (i := 8) scLost.nd rfl (.inl rfl)) pgs_nil))))
          (pss_cons (ps_set (i := 9) scLost.nd rfl (.inl rfl) (pe_op op_mod (pe_bm PySem.F.plainAttrs_list PySem.F.slot_list_pop PySem.F.type_list_pop mt_popAt (pv 2) (pa_cons pe_int pa_nil)) (pe_op op_add (pe_op op_sub (pe_callB call_len_seq (by rfl) N.len PySem.boot_len (pa_cons (pv 7) pa_nil)) (pv 8)) pe_int)))
          (pss_cons (ps_set (i := 10) scLost.nd rfl (.inl rfl) (pe_slice sl_list (pv 7) po_none (po_some (pe_op op_add (pv 8) (pv 9)))))
          (Evl.pss_cut (ps_if (PW.pt (pw_and (pt_cmpR op_gt (pv 9) pe_int (nomark _)) (pw_and1 (pt_cmpR op_eq (pe_op op_mod (pe_bm PySem.F.plainAttrs_list PySem.F.slot_list_pop PySem.F.type_list_pop mt_popAt (pv 2) (pa_cons pe_int pa_nil)) pe_int) pe_int (nomark _)))))
            (pss_one (ps_set (i := 10) scLost.nd rfl (.inl rfl) (pe_op op_cat (pe_slice sl_list (pv 10) po_none (po_some (pe_un un_neg pe_int))) (pe_lst (pa_cons (pe_op op_mod (pe_op op_add (pe_ix ix_list (pv 10) (pe_op op_sub (pe_callB call_len_seq (by rfl) N.len PySem.boot_len (pa_cons (pv 10) pa_nil)) pe_int) (fun _ _ => rfl)) pe_int) pe_int) pa_nil))))) pss_nil)
          (pss_one (ps_dput hu (pv 5) (pv 6) (pv 10) rfl)))))))
      (pss_one (ps_ret (pv 5))))))), ?_⟩
    have gk : ∀ {H : Hp} (k : Str) (v : V), H M = some (.dK (mdK q st)) → valV (mdK q st) (.inr k) = some v → DGet H M (.str k) (some v) := fun k v e z => by
      have := DGet.k (k := (Sum.inr k : Key)) e
      rwa [z] at this
    refine ⟨_, rfl, ch, _, rfl, .inl (.inl (.inl hch)), fun p1 n1 => ⟨(by show 1 ≤ sizeLine; decide), fun p2 n2 => ?_⟩⟩
    have s1 : Same H (upd H p1 (.lst (cs.map V.int))) := same_new n1
    have s2 : Same H (upd (upd H p1 (.lst (cs.map V.int))) p2 (.lst [.int 0])) := s1.trans (same_new n2)
    refine ⟨p2, 40, _, rfl, rfl, upd_same, by decide, by decide, (by show 1 * 40 ≤ sizeLine; decide), fun p3 n3 => ?_⟩
    have s3 := s2.trans (same_new (o := .lst (List.replicate (40 : Int).toNat [V.int 0]).flatten) n3)
    have n12 : p1 ≠ p2 := ne_of_none upd_same n2
    have n13 : p1 ≠ p3 := fun z => by rw [← z, upd_ne n12, upd_same] at n3; cases n3
    have e1 : (upd (upd (upd H p1 (.lst (cs.map V.int))) p2 (.lst [.int 0])) p3 (.lst (List.replicate (40 : Int).toNat [V.int 0]).flatten)) p1 = some (.lst (cs.map V.int)) := by rw [upd_ne n13, upd_ne n12, upd_same]
    have e3 : (upd (upd (upd H p1 (.lst (cs.map V.int))) p2 (.lst [.int 0])) p3 (.lst (List.replicate (40 : Int).toNat [V.int 0]).flatten)) p3 = some (.lst ((List.replicate 40 (0 : Int)).map V.int)) := by rw [upd_same]; rfl
    show rCat _ _ _ _
    generalize (upd (upd (upd H p1 (.lst (cs.map V.int))) p2 (.lst [.int 0])) p3 (.lst (List.replicate (40 : Int).toNat [V.int 0]).flatten)) = H3 at s3 e1 e3
    refine ⟨p1, p3, _, _, rfl, rfl, e1, e3, ?_, fun R nR => ?_⟩
    · rw [List.length_map, List.length_map, List.length_replicate]
      exact Nat.le_of_lt (small1000 (by omega))
    have s4 : Same H (upd H3 R (.lst (cs.map V.int ++ (List.replicate 40 (0 : Int)).map V.int))) := s3.trans (same_new nR)
    have r4 : RAt (upd H3 R (.lst (cs.map V.int ++ (List.replicate 40 (0 : Int)).map V.int))) R cs (39 + 1) := ⟨40, Nat.le_refl _, by rw [upd_same, List.map_append]⟩
    have nR0 : H R = none := s3.free nR
    have iR : ∀ {H' H'' : Hp} {x : HO}, Same H H' → (∀ a o, H' a = some o → a ≠ R → H'' a = some o) → Same H H'' := fun s k a o e => k _ _ (s _ _ e) (fun z => by rw [z, nR0] at e; cases e)
    generalize (upd H3 R (.lst (cs.map V.int ++ (List.replicate 40 (0 : Int)).map V.int))) = H4 at s4 r4
    refine ⟨_, rfl, M, _, rfl, gk _ _ (s4 _ _ hd.dct) md_s, ?_⟩
    refine ⟨fun σ H5 => ∃ td y4, σ = [some (.ref M), some (.ref ch), some (.ref R), some (.ref td), y4, none, none, none, none, none, none] ∧ Same H H5 ∧ RAt H5 R cs.tail 39 ∧ H5 td = some (.dK (mp gi (lsT st cs))), ?_, ?_⟩
    · obtain ⟨xs, hx, hxl, hrow⟩ := hd.chs
      obtain ⟨ys, w1, w2, w3, w4⟩ := r4.pop
      refine ⟨_, rfl, M, _, rfl, gk _ _ (s4 _ _ hd.dct) md_h, _, rfl, .inl ⟨rfl, _, .inl (.inl w1)⟩, R, ys, 0, 0, _, rfl, rfl, w1, by decide, by decide, w2, w3, ?_⟩
      have s5 : Same H (upd H4 R (.lst (ys.eraseIdx 0))) := same_put s4 nR0
      have r5 : RAt (upd H4 R (.lst (ys.eraseIdx 0))) R cs.tail 39 := w4 _ upd_same
      generalize (upd H4 R (.lst (ys.eraseIdx 0))) = H5 at s5 r5
      refine ⟨_, rfl, M, _, rfl, gk _ _ (s5 _ _ hd.dct) md_h, q.cl, _, rfl, .inl (.inl (.inl (s5 _ _ hx))), _, _, rfl, rfl, _, _, rfl, rfl, ?_, _, rfl, q.cl, _, rfl, .inl (.inl (s5 _ _ hx)), fun L nL => ?_⟩
      · show 0 < ((xs.length : Int) + 1)
        omega
      have hb : 0 < (st.chg.length : Int) + 1 := by omega
      have ek : (cs.head?.getD 0) % ((xs.length : Int) + 1) = ((lsK st cs : Nat) : Int) := by
        rw [hxl]
        unfold lsK
        have := nb_nn cs hb
        show nb cs _ = _
        omega
      have kl : lsK st cs ≤ st.chg.length := by
        have := nb_lt cs hb
        have := nb_nn cs hb
        unfold lsK
        omega
      show ∃ _, _
      rw [show cutV xs none (some ((cs.head?.getD 0) % ((xs.length : Int) + 1))) = xs.take (lsK st cs) from by rw [ek, cut0]]
      have s6 : Same H (upd H5 L (.lst (xs.take (lsK st cs)))) := s5.trans (same_new nL)
      have r6 : RAt (upd H5 L (.lst (xs.take (lsK st cs)))) R cs.tail 39 := by
        obtain ⟨m, m1, m2⟩ := r5
        exact ⟨m, m1, same_new nL _ _ m2⟩
      have hL : (upd H5 L (.lst (xs.take (lsK st cs)))) L = some (.lst (xs.take (lsK st cs))) := upd_same
      generalize (upd H5 L (.lst (xs.take (lsK st cs)))) = H6 at s6 r6 hL
      have xl : (xs.take (lsK st cs)).length = lsK st cs := by rw [List.length_take, hxl]; omega
      refine ⟨L, rfl, ⟨_, .inl (.inl hL)⟩, for_it (walk_list (xs := xs.take (lsK st cs))) (fun i σ H7 => ∃ td y4, σ = [some (.ref M), some (.ref ch), some (.ref R), some (.ref td), y4, none, none, none, none, none, none] ∧ Same H6 H7 ∧ H7 td = some (.dK (mp gi (run st.sure (st.chg.take i))))) ?_ ?_ ?_ ?_⟩
      · exact ⟨q.sd, none, rfl, Same.refl _, s6 _ _ hd.sur⟩
      · rintro i σ H7 hi7 ⟨td, y4, rfl, s7, _⟩
        exact .inl (.inl (s7 _ _ hL))
      · rintro i x σ H7 H7' hi7 ⟨td, y4, rfl, s7, htd⟩ ⟨rfl, hxi⟩
        rw [xl] at hi7
        have hic : i < st.chg.length := by omega
        obtain ⟨t, r, z1, z2, z3⟩ := hrow i st.chg[i] (List.getElem?_eq_getElem hic)
        rw [List.getElem?_take_of_lt hi7] at hxi
        obtain rfl : x = .ref t := Option.some.inj (hxi.symm.trans z1)
        have tok := gd.S.run (cs := st.chg.take i) fun c hc => gd.C c (List.mem_of_mem_take hc)
        refine ⟨_, rfl, _, rfl, td, t, run st.sure (st.chg.take i), st.chg[i], r, rfl, htd, s7 _ _ (s6 _ _ z2), z3, gd.O i _ (List.getElem?_eq_getElem hic), tok.nd, (by have := tok.len; omega), fun H8 D s8 nD hD => ⟨D, _, rfl, s7.trans s8, ?_⟩⟩
        rw [hD, List.take_add_one, List.getElem?_eq_getElem hic]
        show _ = some (HO.dK (mp gi (run st.sure (st.chg.take i ++ [st.chg[i]]))))
        rw [run_snoc]
      · rintro σ H7 ⟨td, y4, rfl, s7, htd⟩
        rw [xl] at htd
        obtain ⟨m, m1, m2⟩ := r6
        exact ⟨td, y4, rfl, s6.trans s7, ⟨m, m1, s7 _ _ m2⟩, htd⟩
    · rintro σ H5 ⟨td, y4, rfl, s5, r5, htd⟩
      intro F nF
      have tok := lsT_ok gd cs
      have s6 : Same H5 (upd H5 F (.dK [])) := same_new nF
      have hF6 : (upd H5 F (.dK [])) F = some (.dK []) := upd_same
      have nF0 : H F = none := s5.free nF
      have nFtd : td ≠ F := ne_of_none htd nF
      have nFR : R ≠ F := by
        obtain ⟨m, m1, m2⟩ := r5
        exact ne_of_none m2 nF
      have nRtd : td ≠ R := by
        obtain ⟨m, m1, m2⟩ := r5
        exact ne_of htd m2 (by intro z; cases z)
      generalize (upd H5 F (.dK [])) = H6 at s6 hF6
      refine ⟨_, rfl, td, _, (lsT st cs).map (·.1), rfl, Rd.of (s6 _ _ htd), mp_keys _ _, (by rw [List.length_map]; have := tok.len; omega), fun ys L2 pm sr nL2 => ?_⟩
      rw [show ys = lsN st cs from tok.srt pm sr]
      have nl : (lsN st cs).length ≤ 4 := srt_len _
      have nL25 : H5 L2 = none := s6.free nL2
      have s7 : Same H6 (upd H6 L2 (.lst ((lsN st cs).map V.str))) := same_new nL2
      have hL7 : (upd H6 L2 (.lst ((lsN st cs).map V.str))) L2 = some (.lst ((lsN st cs).map V.str)) := upd_same
      have nL2R : L2 ≠ R := by
        obtain ⟨m, m1, m2⟩ := r5
        exact (ne_of_none m2 nL25).symm
      have nL2F : L2 ≠ F := (ne_of_none hF6 nL2).symm
      generalize (upd H6 L2 (.lst ((lsN st cs).map V.str))) = H7 at s7 hL7
      have s57 := s6.trans s7
      refine ⟨L2, rfl, ⟨_, .inl (.inl hL7)⟩, for_it (walk_list (xs := (lsN st cs).map V.str)) (fun i σ H8 => ∃ y6 y7 y8 y9 y10, σ = [some (.ref M), some (.ref ch), some (.ref R), some (.ref td), y4, some (.ref F), y6, y7, y8, y9, y10] ∧ Same H H8 ∧ H8 td = some (.dK (mp gi (lsT st cs))) ∧ H8 L2 = some (.lst ((lsN st cs).map V.str)) ∧ RAt H8 R (lsS st cs i).2 (39 - 2 * i) ∧ FlAt (fun a => a = R) H8 F (lsS st cs i).1) ?_ ?_ ?_ ?_⟩
      · refine ⟨none, none, none, none, none, rfl, s5.trans s57, s57 _ _ htd, hL7, ?_, [], s7 _ _ hF6, rfl, fun i q h => by simp [lsS] at h⟩
        obtain ⟨m, m1, m2⟩ := r5
        exact ⟨m, m1, s57 _ _ m2⟩
      · rintro i σ H8 hi8 ⟨y6, y7, y8, y9, y10, rfl, _, _, hL8, _⟩
        exact .inl (.inl hL8)
      · rintro i x σ H8 H8' hi8 ⟨y6, y7, y8, y9, y10, rfl, s8, htd8, hL8, r8, f8⟩ ⟨rfl, hxi⟩
        rw [List.length_map] at hi8
        rw [List.getElem?_map, List.getElem?_eq_getElem hi8] at hxi
        obtain rfl := Option.some.inj hxi
        have es := lsS_succ st cs hi8
        have hnn : (lsN st cs)[i] ∉ ((lsS st cs i).1).map (fun q : Str × List Int => q.1) := by
          rw [lsS_names]
          intro z
          obtain ⟨m, hm, e⟩ := List.mem_take_iff_getElem.mp z
          have := (List.getElem_inj (srt_nodup _) (h₀ := by omega) (h₁ := hi8)).mp e
          omega
        generalize hn : (lsN st cs)[i] = n at *
        have hnm : n ∈ lsN st cs := by rw [← hn]; exact List.getElem_mem hi8
        obtain ⟨j, hj⟩ := tget_some (srt_mem hnm).1
        have hjl : j < st.cs.length := tok.ix _ (tget_mem hj)
        have hcj := List.getElem?_eq_getElem hjl
        have ecn : cnm st (lsT st cs) n = st.cs[j] := by
          unfold cnm
          rw [hj]
          show (st.cs[j]?).getD _ = _
          rw [hcj]
          rfl
        unfold stp at es
        rw [ecn] at es
        have hcs := bd.s _ (List.getElem_mem hjl)
        have hco := bd.o _ (List.getElem_mem hjl)
        obtain ⟨c1, c2⟩ := hd.cts j _ hcj
        generalize hcc : st.cs[j] = c at *
        have hg : DGet H8' td (.str n) (some (gi j)) := by
          have := DGet.k (k := (Sum.inr n : Key)) htd8
          rw [mp_get, hj] at this
          exact this
        have cxx : atI ((List.range st.cs.length).map fun i => V.ref (q.row i)) ((j : Nat) : Int) = some (.ref (q.row j)) := by
          refine atI_nat ?_
          rw [List.getElem?_map, List.getElem?_range hjl]
          rfl
        have hpl : (lsS st cs i).1.length ≤ 1000 := by
          have := congrArg List.length (lsS_names st cs i)
          rw [List.length_map, List.length_take] at this
          omega
        generalize hch8 : (lsS st cs i).2 = chs at *
        generalize (lsS st cs i).1 = ps at *
        have olR : q.ol j ≠ R := fun z => by rw [z, nR0] at c2; cases c2
        have roR : q.row j ≠ R := fun z => by rw [z, nR0] at c1; cases c1
        refine ⟨_, rfl, M, _, rfl, gk _ _ (s8 _ _ hd.dct) md_c, _, rfl, _, rfl, td, _, rfl, hg, q.lc, _, _, _, rfl, rfl, .inl (.inl (s8 _ _ hd.con)), cxx, q.row j, _, rfl, .inl (.inl (s8 _ _ c1)), rfl, _, _, rfl, _, _, rfl, rfl, ?_⟩
        have hk : 39 - 2 * i = (37 - 2 * i + 1) + 1 := by omega
        rw [hk] at r8
        obtain ⟨ys1, w1, w2, w3, w4⟩ := r8.pop
        refine ⟨_, rfl, .inl ⟨rfl, _, .inl (.inl w1)⟩, R, ys1, 0, 0, _, rfl, rfl, w1, by decide, by decide, w2, w3, ?_⟩
        have k9 : ∀ a o, H8' a = some o → a ≠ R → (upd H8' R (.lst (ys1.eraseIdx 0))) a = some o := fun a o e nn => by rw [upd_ne nn]; exact e
        have r9 := w4 (upd H8' R (.lst (ys1.eraseIdx 0))) upd_same
        generalize (upd H8' R (.lst (ys1.eraseIdx 0))) = H9 at k9 r9
        have s9 : Same H H9 := iR (x := .dK []) s8 k9
        refine ⟨_, rfl, q.ol j, _, rfl, .inl (.inl (.inl (s9 _ _ c2))), _, rfl, _, _, rfl, rfl, _, _, rfl, rfl, _, _, rfl, rfl, ?_, ?_⟩
        · show 0 < ((c.o.map V.int).length : Int) - (c.s : Int) + 1
          rw [List.length_map]
          omega
        have hb : 0 < ((c.o.length - c.s : Nat) : Int) + 1 := by omega
        have ek : (chs.head?.getD 0) % (((c.o.map V.int).length : Int) - (c.s : Int) + 1) = ((olk c chs : Nat) : Int) := by
          rw [List.length_map, show ((c.o.length : Int) - (c.s : Int) + 1) = ((c.o.length - c.s : Nat) : Int) + 1 from by omega]
          unfold olk
          have := nb_nn chs hb
          show nb chs _ = _
          omega
        have kl : olk c chs ≤ c.o.length - c.s := by
          have := nb_lt chs hb
          have := nb_nn chs hb
          unfold olk
          omega
        show gName 9 (V.int ((chs.head?.getD 0) % (((c.o.map V.int).length : Int) - (c.s : Int) + 1))) _ _ _
        rw [ek]
        refine ⟨_, rfl, _, rfl, _, rfl, _, _, rfl, rfl, _, rfl, q.ol j, _, rfl, .inl (.inl (s9 _ _ c2)), fun p4 n4 => ?_⟩
        rw [show ((c.s : Int) + ((olk c chs : Nat) : Int)) = ((c.s + olk c chs : Nat) : Int) from by omega, cut0, ← List.map_take, List.take_add]
        show Evl.tCut _ _ _ _ (upd H9 p4 (.lst ((c.o.take c.s ++ olr c chs).map V.int)))
        have n40 : H p4 = none := s9.free n4
        have s10 : Same H (upd H9 p4 (.lst ((c.o.take c.s ++ olr c chs).map V.int))) := s9.trans (same_new n4)
        have k10 : ∀ a o, H8' a = some o → a ≠ R → (upd H9 p4 (.lst ((c.o.take c.s ++ olr c chs).map V.int))) a = some o := fun a o e nn => same_new n4 _ _ (k9 a o e nn)
        have r10 : RAt (upd H9 p4 (.lst ((c.o.take c.s ++ olr c chs).map V.int))) R chs.tail (37 - 2 * i + 1) := by
          obtain ⟨m, m1, m2⟩ := r9
          exact ⟨m, m1, same_new n4 _ _ m2⟩
        have e10 : (upd H9 p4 (.lst ((c.o.take c.s ++ olr c chs).map V.int))) p4 = some (.lst ((c.o.take c.s ++ olr c chs).map V.int)) := upd_same
        have np4R : p4 ≠ R := by
          obtain ⟨m, m1, m2⟩ := r9
          exact (ne_of_none m2 n4).symm
        generalize (upd H9 p4 (.lst ((c.o.take c.s ++ olr c chs).map V.int))) = H10 at s10 k10 r10 e10
        have lr : (olr c chs).length = olk c chs := by
          unfold olr
          rw [List.length_take, List.length_drop]
          omega
        refine ⟨fun σ H11 => ∃ p5, σ = [some (.ref M), some (.ref ch), some (.ref R), some (.ref td), y4, some (.ref F), some (.str n), some (.ref (q.ol j)), some (.int (c.s : Int)), some (.int ((olk c chs : Nat) : Int)), some (.ref p5)] ∧ (∀ a o, H8' a = some o → a ≠ R → H11 a = some o) ∧ RAt H11 R (olc c chs) (37 - 2 * i) ∧ p5 ≠ R ∧ H11 p5 = some (.lst ((olv c chs).map V.int)), ?_, ?_⟩
        · refine ⟨_, rfl, _, _, rfl, rfl, _, rfl, ?_⟩
          by_cases hz : olr c chs = []
          · have hk0 : olk c chs = 0 := by rw [← lr, hz]; rfl
            refine iteBF (decide_eq_false (by omega)) (iteF ⟨p4, rfl, k10, ?_, np4R, ?_⟩)
            · unfold olc
              rw [if_neg fun z => z hz]
              obtain ⟨m, m1, m2⟩ := r10
              exact ⟨m, by omega, m2⟩
            · unfold olv
              rw [if_neg fun z => z.1 hz]
              exact e10
          · have hk0 : 0 < olk c chs := by rw [← lr]; exact List.length_pos_iff.mpr hz
            refine iteB (decide_eq_true (by omega)) ?_
            obtain ⟨ys2, x1, x2, x3, x4⟩ := r10.pop
            refine ⟨_, rfl, .inl ⟨rfl, _, .inl (.inl x1)⟩, R, ys2, 0, 0, _, rfl, rfl, x1, by decide, by decide, x2, x3, _, _, rfl, rfl, (by show (0 : Int) < 3; decide), rfl, _, rfl, ?_⟩
            have k11 : ∀ a o, H10 a = some o → a ≠ R → (upd H10 R (.lst (ys2.eraseIdx 0))) a = some o := fun a o e nn => by rw [upd_ne nn]; exact e
            have r11 : RAt (upd H10 R (.lst (ys2.eraseIdx 0))) R (olc c chs) (37 - 2 * i) := by
              unfold olc
              rw [if_pos hz]
              exact x4 _ upd_same
            generalize (upd H10 R (.lst (ys2.eraseIdx 0))) = H11 at k11 r11
            have e11 := k11 _ _ e10 np4R
            by_cases h1 : nb chs.tail 3 = 1
            · refine iteB (decide_eq_true (by show V.int (nb chs.tail 3) = V.int 1; rw [h1])) ?_
              have hzl : (c.o.take c.s ++ olr c chs) = (c.o.take c.s ++ (olr c chs).dropLast) ++ [(olr c chs).getLast?.getD 0] := by
                rw [List.append_assoc]
                congr 1
                have e2 := List.dropLast_concat_getLast hz
                rw [List.getLast?_eq_some_getLast hz]
                exact e2.symm
              generalize hzs : (c.o.take c.s ++ (olr c chs).dropLast) = zs at hzl
              have hbump : olv c chs = zs ++ [((olr c chs).getLast?.getD 0 + 1) % 256] := by
                unfold olv
                rw [if_pos ⟨hz, h1⟩]
                unfold bump
                rw [← List.append_assoc, hzs]
              rw [hzl, List.map_append] at e11
              have zl : zs.length ≤ 1000 := by
                have := congrArg List.length hzl
                rw [List.length_append, List.length_append, List.length_take, lr, List.length_singleton] at this
                omega
              refine ⟨_, rfl, _, rfl, _, rfl, p4, _, rfl, .inl (.inl e11), fun p6 n6 => ?_⟩
              have g11 : ∀ {x : HO}, (upd H11 p6 x) p4 = some (.lst (zs.map V.int ++ [((olr c chs).getLast?.getD 0)].map V.int)) := fun {x} => by rw [upd_ne (ne_of_none e11 n6)]; exact e11
              refine ⟨_, rfl, _, rfl, p4, _, rfl, .inl (.inl (.inl g11)), _, _, rfl, rfl, p4, _, _, .int ((olr c chs).getLast?.getD 0), rfl, rfl, .inl (.inl g11), ?_, _, _, rfl, rfl, _, _, rfl, rfl, (by show (0 : Int) < 256; decide), (by show 1 ≤ sizeLine; decide), fun p7 n7 => ?_⟩
              · show atI _ (((zs.map V.int ++ [((olr c chs).getLast?.getD 0)].map V.int).length : Int) - 1) = _
                rw [List.length_append, List.length_map, show ((((zs.length + ([((olr c chs).getLast?.getD 0)].map V.int).length : Nat)) : Int) - 1) = ((zs.length : Nat) : Int) from by show (((zs.length + 1 : Nat) : Int) - 1) = _; omega]
                refine atI_nat ?_
                rw [List.getElem?_append_right (by rw [List.length_map]; exact Nat.le_refl _), List.length_map, Nat.sub_self]
                rfl
              have n67 : p6 ≠ p7 := ne_of_none upd_same n7
              refine ⟨p6, p7, _, _, rfl, rfl, by rw [upd_ne n67, upd_same], upd_same, ?_, fun p8 n8 => ?_⟩
              · show (cutV (zs.map V.int ++ [V.int _]) none (some (-1))).length + 1 ≤ sizeLine
                rw [cutM1, List.length_map]
                exact small1000 zl
              have s78 : ∀ a o, H11 a = some o → (upd (upd (upd H11 p6 (.lst (cutV (zs.map V.int ++ [((olr c chs).getLast?.getD 0)].map V.int) none (some (-1))))) p7 (.lst [.int (((olr c chs).getLast?.getD 0 + 1) % 256)])) p8 (.lst (cutV (zs.map V.int ++ [((olr c chs).getLast?.getD 0)].map V.int) none (some (-1)) ++ [.int (((olr c chs).getLast?.getD 0 + 1) % 256)]))) a = some o := fun a o e => same_new n8 _ _ (same_new n7 _ _ (same_new n6 _ _ e))
              have p8R : p8 ≠ R := by
                obtain ⟨m, m1, m2⟩ := r11
                exact (ne_of_none (same_new n7 _ _ (same_new n6 _ _ m2)) n8).symm
              refine ⟨p8, rfl, fun a o e nn => s78 _ _ (k11 _ _ (k10 _ _ e nn) nn), ?_, p8R, ?_⟩
              · obtain ⟨m, m1, m2⟩ := r11
                exact ⟨m, m1, s78 _ _ m2⟩
              · rw [upd_same, hbump, List.map_append]
                show some (HO.lst (cutV (zs.map V.int ++ [V.int _]) none (some (-1)) ++ [V.int _])) = _
                rw [cutM1]
                rfl
            · refine iteBF (decide_eq_false fun z => h1 (V.int.inj z)) ⟨p4, rfl, fun a o e nn => k11 _ _ (k10 _ _ e nn) nn, r11, np4R, ?_⟩
              unfold olv
              rw [if_neg fun z => h1 z.2]
              exact e11
        · rintro σ H11 ⟨p5, rfl, k11, r11, n5, e11⟩
          obtain ⟨kvs, f1, f2, f3⟩ := f8
          have hF11 := k11 _ _ f1 nFR.symm
          refine ⟨_, rfl, _, rfl, _, rfl, F, _, rfl, DPut.k (k := (Sum.inr n : Key)) hF11 ?_, ?_⟩
          · rw [f2]
            exact small1000 hpl
          have p5F : p5 ≠ F := ne_of e11 hF11 (by intro z; cases z)
          refine ⟨_, _, _, _, _, rfl, fun a o e => ?_, ?_, ?_, ?_, ?_⟩
          · rw [upd_ne (ne_of_none e nF0)]
            exact k11 _ _ (s8 _ _ e) fun z => by rw [z, nR0] at e; cases e
          · rw [upd_ne nFtd]
            exact k11 _ _ htd8 nRtd
          · rw [upd_ne nL2F]
            exact k11 _ _ hL8 nL2R
          · rw [es]
            obtain ⟨m, m1, m2⟩ := r11
            exact ⟨m, by omega, by rw [upd_ne nFR]; exact m2⟩
          · rw [es]
            refine FlAt.put f2 f3 hnn (fun a xs e na => ?_) n5 (by rw [upd_ne p5F]; exact e11) upd_same
            rw [upd_ne (ne_of e f1 (by intro z; cases z))]
            exact k11 _ _ e na
      · rintro σ H8 ⟨y6, y7, y8, y9, y10, rfl, s8, _, _, _, f8⟩
        rw [List.length_map, lsS_end] at f8
        exact ⟨_, rfl, qq H8 F s8 nF0 (f8.weak (Same.refl _))⟩
end
end K2

namespace K2
open PySem L2
theorem depth_ints : ∀ os : List Int, PyData.depthAll (os.map PyData.int) ≤ 1
  | [] => by simp [PyData.depthAll]
  | n :: r => by
    have := depth_ints r
    simp [PyData.depthAll, PyData.depth] at this ⊢
    omega
theorem lay_ints : ∀ os : List Int, PyData.canLayAll0 (os.map PyData.int) = true
  | [] => by simp [PyData.canLayAll0]
  | n :: r => by
    have := lay_ints r
    simp [PyData.canLayAll0, PyData.canLay0] at this ⊢
    exact this
theorem shp_of {ds : List PyData} (h1 : PyData.depthAll ds ≤ 1) (h : PyData.canLayAll0 ds = true) : SeqAt.shaped (.list ds) = true := by
  have h2 : PyData.depth (.list ds) ≤ 64 := by
    simp only [PyData.depth]
    omega
  show (PyData.canLay0 (.list ds) && decide (PyData.depth (.list ds) ≤ 64)) = true
  rw [Bool.and_eq_true]
  exact ⟨by simp only [PyData.canLay0]; exact h, decide_eq_true h2⟩
theorem eqv_of {ds : List PyData} (h : PyData.canLayAll0 ds = true) : PyData.eqv (.list ds) (.list ds) = true := SeqAt.eqv_refl _ (by simp only [PyData.canLay0]; exact h)
theorem dp_ints {K : PySem.W.Frag} {H : Hp} : ∀ os : List Int, DpAll K H (os.map V.int) (os.map PyData.int)
  | [] => .nil
  | n :: r => .cons (.int n) (dp_ints r)
theorem depth_strs : ∀ os : List Str, PyData.depthAll (os.map PyData.str) ≤ 1
  | [] => by simp [PyData.depthAll]
  | n :: r => by
    have := depth_strs r
    simp [PyData.depthAll, PyData.depth] at this ⊢
    omega
theorem lay_nm : ∀ n ∈ NM, PyData.canLay0 (.str n) = true := by decide +kernel
theorem lay_strs : ∀ os : List Str, (∀ n ∈ os, n ∈ NM) → PyData.canLayAll0 (os.map PyData.str) = true
  | [], _ => by simp [PyData.canLayAll0]
  | n :: r, h => by
    have h1 := lay_strs r fun x hx => h x (List.mem_cons_of_mem _ hx)
    have h2 := lay_nm n (h n List.mem_cons_self)
    rw [List.map_cons, PyData.canLayAll0, h1, h2]
    rfl
theorem dp_strs {K : PySem.W.Frag} {H : Hp} : ∀ os : List Str, DpAll K H (os.map V.str) (os.map PyData.str)
  | [] => .nil
  | n :: r => .cons (.str n) (dp_strs r)
/-- two lists of the same ints are not != -/
theorem ne_ints {K : PySem.W.Frag} {H : Hp} {a b : Addr} {os : List Int} {Q : VK} (ha : H a = some (.lst (os.map V.int))) (hb : H b = some (.lst (os.map V.int))) (q : Q (.bl false) H) : rNeD K (.ref a) (.ref b) H Q := by
  refine ⟨.list (os.map PyData.int), .list (os.map PyData.int), .lst (.inl (.inl ha)) (dp_ints os), .lst (.inl (.inl hb)) (dp_ints os), shp_of (depth_ints os) (lay_ints os), shp_of (depth_ints os) (lay_ints os), ?_⟩
  rw [eqv_of (lay_ints os)]
  exact q
theorem ne_strs {K : PySem.W.Frag} {H : Hp} {a b : Addr} {os : List Str} {Q : VK} (hn : ∀ n ∈ os, n ∈ NM) (ha : H a = some (.lst (os.map V.str))) (hb : H b = some (.lst (os.map V.str))) (q : Q (.bl false) H) : rNeD K (.ref a) (.ref b) H Q := by
  refine ⟨.list (os.map PyData.str), .list (os.map PyData.str), .lst (.inl (.inl ha)) (dp_strs os), .lst (.inl (.inl hb)) (dp_strs os), shp_of (depth_strs os) (lay_strs os hn), shp_of (depth_strs os) (lay_strs os hn), ?_⟩
  rw [eqv_of (lay_strs os hn)]
  exact q
theorem tget_no {n : Nat} {t : Tb} (h : TbOk n t) : tget t "none" = none := by
  cases e : tget t "none" with
  | none => rfl
  | some i => exact absurd (h.nm _ (tget_mem e)) (show ("none" : Str) ∉ NM by decide +kernel)
theorem cut13 (xs : List V) : cutV xs (some 1) (some 3) = (xs.drop 1).take 2 := cutab 1 2
theorem FlAt.get {N : Addr → Prop} {H : Hp} {F : Addr} {ps : Fl} (h : FlAt N H F ps) (nd : (ps.map (fun q : Str × List Int => q.1)).Nodup) {q : Str × List Int} (hq : q ∈ ps) : ∃ a : Addr, DGet H F (.str q.1) (some (.ref a)) ∧ H a = some (.lst (q.2.map V.int)) := by
  obtain ⟨kvs, e, hl, f⟩ := h
  obtain ⟨i, hi, rfl⟩ := List.getElem_of_mem hq
  obtain ⟨a, z1, z2, _⟩ := f i _ (List.getElem?_eq_getElem hi)
  refine ⟨a, .inl ⟨kvs, (Sum.inr ps[i].1 : Key), .inl e, rfl, ?_⟩, z2⟩
  have hn := FlAt.names hl f
  unfold valV
  have : kvs.find? (fun p => decide (p.1 = (Sum.inr ps[i].1 : Key))) = some ((Sum.inr ps[i].1 : Key), V.ref a) := by
    obtain ⟨hik, e2⟩ := List.getElem?_eq_some_iff.mp z1
    rw [List.find?_eq_some_iff_getElem]
    refine ⟨decide_eq_true rfl, i, hik, e2, fun j hj => ?_⟩
    rw [Bool.not_eq_true', decide_eq_false_iff_not]
    intro z
    have hjl : j < ps.length := by omega
    have h1 : kvs[j].1 = (Sum.inr ps[j].1 : Key) := by
      have h2 := congrArg (fun l => l[j]?) hn
      simp only [List.getElem?_map] at h2
      rw [List.getElem?_eq_getElem (by omega), List.getElem?_eq_getElem hjl] at h2
      exact Option.some.inj h2
    rw [h1] at z
    have z2 : ps[j].1 = ps[i].1 := Sum.inr.inj z
    have := (List.getElem_inj nd (h₀ := by rw [List.length_map]; exact hjl) (h₁ := by rw [List.length_map]; exact hi)).mp (by rw [List.getElem_map, List.getElem_map]; exact z2)
    omega
  rw [this]
  rfl
section
variable {P : Program} {w : World} {K : PySem.W.Frag} {mg : Str → Option Value} {base : Heap}
structure SameF (P : Program) (w : World) (K : PySem.W.Frag) (mg : Str → Option Value) (base : Heap) (CD CC : Addr) where
  (fN fS fR : Addr)
  (dN dS dR : FuncData)
  GN : FnOk P w K mg base CX0 1 fN dN ["self"] (spNames CD CC)
  bN : Binds K dN ["self"] []
  mN : Meth K CD "names" fN
  GS : FnOk P w K mg base CX0 1 fS dS ["self", "name"] (spSize CD CC)
  bS : Binds K dS ["self", "name"] []
  mS : Meth K CD "size" fS
  GR : FnOk P w K mg base CX0 1 fR dR ["self", "name", "start", "count"] (spRead CD CC)
  bR : Binds K dR ["self", "name", "start", "count"] []
  mR : Meth K CD "read" fR
  clD : Cls K CD
def spSame (CD CC : Addr) : Sp := fun vs H Q _ => ∃ (d F : Addr) (st : DS) (p : DP) (n0 : Nat) (ps : Fl) (N : Addr → Prop), vs = [.ref d, .ref F] ∧ DkAt CD CC H d st p ∧ TbOk n0 st.tab ∧ FlAt N H F ps ∧ (ps.map (fun q : Str × List Int => q.1)).Nodup ∧ (∀ q ∈ ps, q.1 ∈ NM) ∧ srt (ps.map (fun q : Str × List Int => q.1)) = srt (st.tab.map (·.1)) ∧
  (∀ q ∈ ps, ∃ i c, tget st.tab q.1 = some i ∧ st.cs[i]? = some c ∧ c.o = q.2 ∧ c.o.length ≤ 1000) ∧ ∀ H', Same H H' → Q (.bl true) H'
theorem scSame : FnScope ["disk", "files", "name"] ["disk", "files"] (defScope sLSame) := ⟨rfl, rfl, rfl, by decide +kernel, rfl, by decide +kernel, by decide +kernel⟩
theorem ok_same {f CD CC : Addr} {fd : FuncData} (F : Fun K "_law_same" "_law_same" sLSame f fd) (N : Nm mg) (Z : SameF P w K mg base CD CC) : FnOk P w K mg base CX0 2 f fd ["disk", "files"] (spSame CD CC) := by
  have GN := Z.GN
  have GS := Z.GS
  have GR := Z.GR
  refine F.ok scSame (fun vs H Q E h => ?_) (fun cdv A outer s H vs Q E hr h => ?_)
  · obtain ⟨d, F, st, p, n0, ps, N, rfl, _⟩ := h
    rfl
  · obtain ⟨d, Fa, st, p, n0, ps, NN, rfl, hd, ht, hf, nd, nm, hs, hc, qq⟩ := h
    have hu := hu_of hr
    refine ⟨_, pss_cons (ps_if (PW.pt (pw_or (pt_cmpR (op_neD hr.units) (pe_meth0 (pv 0) Z.clD Z.mN GN hr Z.bN .nil pass0) (pe_callB (call_sortedD rfl) (by rfl) N.sorted (by decide +kernel) (pa_cons (pv 1) pa_nil)) (nomark _))
          (pw_or1 (pt_cmpR op_notN (pe_meth (pv 0) Z.clD Z.mS GS hr Z.bS .nil pass0 (pa_cons pe_str pa_nil)) pe_non (nomark _))))) (pss_one (ps_ret pe_bl)) pss_nil)
      (pss_cons (ps_for PassesOwn.never rfl (pi_list (pe_callB (call_sortedD rfl) (by rfl) N.sorted (by decide +kernel) (pa_cons (pv 1) pa_nil))) (pg_name (i := 2) scSame.nd rfl (.inl rfl))
        (pss_cons (ps_if (PW.pt (pw_or (pt_cmpR op_ne (pe_meth (pv 0) Z.clD Z.mS GS hr Z.bS .nil pass0 (pa_cons (pv 2) pa_nil)) (pe_callB call_len_seq (by rfl) N.len PySem.boot_len (pa_cons (pe_dget hu (pv 1) (pv 2) (fun _ _ => rfl)) pa_nil)) (nomark _))
            (pw_or1 (pt_cmpR (op_neD hr.units) (pe_meth (pv 0) Z.clD Z.mR GR hr Z.bR .nil pass0 (pa_cons (pv 2) (pa_cons pe_int (pa_cons pe_int pa_nil)))) (pe_dget hu (pv 1) (pv 2) (fun _ _ => rfl)) (nomark _))))) (pss_one (ps_ret pe_bl)) pss_nil)
        (pss_one (ps_if (pt_cmpR (op_neD hr.units) (pe_meth (pv 0) Z.clD Z.mR GR hr Z.bR .nil pass0 (pa_cons (pv 2) (pa_cons pe_int (pa_cons pe_int pa_nil)))) (pe_slice sl_list (pe_dget hu (pv 1) (pv 2) (fun _ _ => rfl)) (po_some pe_int) (po_some pe_int)) (nomark _)) (pss_one (ps_ret pe_bl)) pss_nil))))
      (pss_one (ps_ret pe_bl))), ?_⟩
    obtain ⟨kvs, e0, hl0, f0⟩ := id hf
    have hkn := FlAt.names hl0 f0
    have hnl : (ps.map (fun q : Str × List Int => q.1)).length ≤ 4 := by
      have := nodup_le (m := NM) nd fun x hx => by
        obtain ⟨q, hq, rfl⟩ := List.mem_map.mp hx
        exact nm q hq
      exact this
    have hsort : ∀ ys : List Str, ys.Perm (ps.map (fun q : Str × List Int => q.1)) → PyProof.Rows.sortedS ys = true → ys = srt (ps.map (fun q : Str × List Int => q.1)) := fun ys pm sr => srt_eq nd (fun x hx => by
      obtain ⟨q, hq, rfl⟩ := List.mem_map.mp hx
      exact nm q hq) pm sr
    obtain ⟨dx, hi⟩ := hd.inst'
    refine ⟨_, rfl, d, dx, _, rfl, hi, rfl, ?_⟩
    refine ⟨d, st, p, n0, rfl, hd, ht, fun H1 L1 s1 n1 e1 => ?_⟩
    refine ⟨_, rfl, Fa, kvs, _, rfl, Rd.of (s1 _ _ e0), hkn, by omega, fun ys L2 pm sr n2 => ?_⟩
    rw [hsort ys pm sr]
    have s2 : Same H (upd H1 L2 (.lst ((srt (ps.map (fun q : Str × List Int => q.1))).map V.str))) := s1.trans (same_new n2)
    have e1b : (upd H1 L2 (.lst ((srt (ps.map (fun q : Str × List Int => q.1))).map V.str))) L1 = some (.lst ((srt (st.tab.map (·.1))).map V.str)) := same_new n2 _ _ e1
    have e2 : (upd H1 L2 (.lst ((srt (ps.map (fun q : Str × List Int => q.1))).map V.str))) L2 = some (.lst ((srt (ps.map (fun q : Str × List Int => q.1))).map V.str)) := upd_same
    show rNeD _ _ _ _ _
    generalize (upd H1 L2 (.lst ((srt (ps.map (fun q : Str × List Int => q.1))).map V.str))) = H2 at s2 e1b e2
    rw [← hs] at e1b
    refine ne_strs (fun n hn => (srt_mem hn).2) e1b e2 ⟨_, rfl, iteF ?_⟩
    refine ⟨_, rfl, d, dx, _, rfl, s2 _ _ hi, rfl, ?_⟩
    refine ⟨d, st, p, _, rfl, hd.same s2, fun _ => ⟨rfl, _, rfl, iteF ?_⟩, fun i z => ?_⟩
    · refine ⟨_, rfl, Fa, kvs, _, rfl, Rd.of (s2 _ _ e0), hkn, by omega, fun ys L3 pm sr n3 => ?_⟩
      rw [hsort ys pm sr]
      have s3 : Same H (upd H2 L3 (.lst ((srt (ps.map (fun q : Str × List Int => q.1))).map V.str))) := s2.trans (same_new n3)
      have e3 : (upd H2 L3 (.lst ((srt (ps.map (fun q : Str × List Int => q.1))).map V.str))) L3 = some (.lst ((srt (ps.map (fun q : Str × List Int => q.1))).map V.str)) := upd_same
      generalize (upd H2 L3 (.lst ((srt (ps.map (fun q : Str × List Int => q.1))).map V.str))) = H3 at s3 e3
      refine ⟨L3, rfl, ⟨_, .inl (.inl e3)⟩, for_it (walk_list (xs := (srt (ps.map (fun q : Str × List Int => q.1))).map V.str)) (fun i σ H4 => ∃ y2, σ = [some (.ref d), some (.ref Fa), y2] ∧ Same H3 H4) ?_ ?_ ?_ ?_⟩
      · exact ⟨none, rfl, Same.refl _⟩
      · rintro i σ H4 hi4 ⟨y2, rfl, s4⟩
        exact .inl (.inl (s4 _ _ e3))
      · rintro i x σ H4 H4' hi4 ⟨y2, rfl, s4⟩ ⟨rfl, hxi⟩
        rw [List.length_map] at hi4
        rw [List.getElem?_map, List.getElem?_eq_getElem hi4] at hxi
        obtain rfl := Option.some.inj hxi
        have hm := (srt_mem (List.getElem_mem hi4)).1
        generalize (srt (ps.map (fun q : Str × List Int => q.1)))[i] = n at hm
        obtain ⟨q, hq, rfl⟩ := List.mem_map.mp hm
        obtain ⟨j, c, c1, c2, c3, c4⟩ := hc q hq
        have s04 := s3.trans s4
        obtain ⟨a, hg, ha⟩ := hf.get nd hq
        have ha4 := s04 _ _ ha
        have gt : ∀ {H' : Hp}, Same H H' → DGet H' Fa (.str q.1) (some (.ref a)) := fun s => by
          rcases hg with ⟨kv, k, (z1 | ⟨o, z1⟩), z2, z3⟩ | ⟨kv, k, b, (z1 | ⟨o, z1⟩), z2, z3, z4⟩
          · exact .inl ⟨kv, k, .inl (s _ _ z1), z2, z3⟩
          · exact .inl ⟨kv, k, .inr ⟨o, s _ _ z1⟩, z2, z3⟩
          · exact .inr ⟨kv, k, b, .inl (s _ _ z1), z2, s _ _ z3, z4⟩
          · exact .inr ⟨kv, k, b, .inr ⟨o, s _ _ z1⟩, z2, s _ _ z3, z4⟩
        refine ⟨_, rfl, d, dx, _, rfl, s04 _ _ hi, rfl, _, rfl, d, st, p, q.1, rfl, hd.same s04, fun z => ?_, fun j2 z => ⟨c, ?_, ?_⟩⟩
        · rw [c1] at z; cases z
        · rw [c1] at z
          rw [← Option.some.inj z]
          exact c2
        refine ⟨_, rfl, _, rfl, Fa, _, rfl, gt s04, a, _, rfl, .inl (.inl (.inl ha4)), rfl, _, rfl, iteBF ?_ ?_⟩
        · rw [decide_eq_true (by rw [List.length_map, c3])]
          rfl
        refine ⟨_, rfl, d, dx, _, rfl, s04 _ _ hi, rfl, _, rfl, d, st, p, q.1, 0, 1000, j, c, rfl, hd.same s04, c1, c2, fun H5 p5 s5 n5 e5 => ?_⟩
        have e5b : H5 p5 = some (.lst (q.2.map V.int)) := by
          rw [e5, List.drop_zero, List.take_of_length_le c4, c3]
        have s05 := s04.trans s5
        refine ⟨_, rfl, _, rfl, Fa, _, rfl, gt s05, ne_ints e5b (s05 _ _ ha) ⟨_, rfl, iteF ?_⟩⟩
        refine ⟨_, rfl, d, dx, _, rfl, s05 _ _ hi, rfl, _, rfl, d, st, p, q.1, 1, 2, j, c, rfl, hd.same s05, c1, c2, fun H6 p6 s6 n6 e6 => ?_⟩
        have s06 := s05.trans s6
        refine ⟨_, rfl, _, rfl, Fa, _, rfl, gt s06, _, rfl, _, rfl, a, _, rfl, .inl (.inl (s06 _ _ ha)), fun p7 n7 => ?_⟩
        rw [c3] at e6
        refine ne_ints (os := (q.2.drop 1).take 2) (same_new n7 _ _ e6) ?_ ⟨_, rfl, iteF ⟨_, rfl, s4.trans (s5.trans (s6.trans (same_new n7)))⟩⟩
        rw [upd_same, cut13, ← List.map_drop, ← List.map_take]
      · rintro σ H4 ⟨y2, rfl, s4⟩
        exact qq H4 (s3.trans s4)
    · rw [tget_no ht] at z
      cases z
end
end K2

namespace K2
open PySem L2
structure LI (CD CC : Addr) (H0 H : Hp) (S D M : Addr) (sd : DS) (p : DP) (sm : DS) (q : MP) : Prop where
  s : Same H0 H
  st : SAt H S
  nS : H0 S = none
  d : DkAt CD CC H D sd p
  m : MdAt H M sm q
  fd : ∀ a, foot D p sd.cs.length a → H0 a = none ∧ a ≠ S
  fm : ∀ a, ftM M q sm.cs.length a → H0 a = none ∧ a ≠ S ∧ ¬ foot D p sd.cs.length a
section
variable {CD CC : Addr} {H0 H H1 : Hp} {S D M : Addr} {sd sm sd' sm' : DS} {p p' : DP} {q q' : MP}
theorem LI.same (h : LI CD CC H0 H S D M sd p sm q) (k : Same H H1) : LI CD CC H0 H1 S D M sd p sm q := by
  obtain ⟨x, y, e⟩ := h.st
  exact ⟨h.s.trans k, ⟨x, y, k _ _ e⟩, h.nS, h.d.same k, h.m.same k, h.fd, h.fm⟩
theorem LI.draw (h : LI CD CC H0 H S D M sd p sm q) (k : ∀ a o, H a = some o → a ≠ S → H1 a = some o) (st : SAt H1 S) : LI CD CC H0 H1 S D M sd p sm q := by
  obtain ⟨x, y, e⟩ := h.st
  refine ⟨fun a o e0 => k _ _ (h.s _ _ e0) fun z => (by rw [z, h.nS] at e0; cases e0), st, h.nS, h.d.keep fun a o ea z => k _ _ ea ?_, h.m.keep fun a o ea z => k _ _ ea ?_, h.fd, h.fm⟩
  · rcases z with f | ⟨r, rfl⟩
    · exact (h.fd a f).2
    · exact ne_of ea e (by intro z; cases z)
  · rcases z with f | ⟨r, rfl⟩
    · exact (h.fm a f).2.1
    · exact ne_of ea e (by intro z; cases z)
theorem LI.nf0 (h : LI CD CC H0 H S D M sd p sm q) {a : Addr} (e : H a = none) : H0 a = none ∧ a ≠ S := by
  refine ⟨h.s.free e, fun z => ?_⟩
  obtain ⟨x, y, es⟩ := h.st
  rw [z, es] at e
  cases e
theorem MdAt.ntup (h : MdAt H M sm q) {a : Addr} {r : List V} (n : H a = some (.tup r)) : ¬ ftM M q sm.cs.length a := fun f => by
  obtain ⟨o, e, g⟩ := h.occ f
  rw [n] at e
  exact g r (Option.some.inj e).symm
theorem LI.disk (h : LI CD CC H0 H S D M sd p sm q) (o : Out (foot D p sd.cs.length) H H1) (g : Gw (foot D p sd.cs.length) (foot D p' sd'.cs.length) H) (d : DkAt CD CC H1 D sd' p') : LI CD CC H0 H1 S D M sd' p' sm q := by
  refine ⟨fun a u e0 => o _ _ (h.s _ _ e0) fun f => ?_, ?_, h.nS, d, h.m.keep fun a u ea z => o _ _ ea ?_, fun a f => ?_, fun a f => ?_⟩
  · have := (h.fd a f).1
    rw [this] at e0
    cases e0
  · obtain ⟨x, y, e⟩ := h.st
    exact ⟨x, y, o _ _ e fun f => (h.fd S f).2 rfl⟩
  · rcases z with f | ⟨r, rfl⟩
    · exact (h.fm a f).2.2
    · exact h.d.ntup ea
  · rcases g a f with z | z
    · exact h.fd a z
    · exact h.nf0 z
  · obtain ⟨f1, f2, f3⟩ := h.fm a f
    refine ⟨f1, f2, fun z => ?_⟩
    rcases g a z with y | y
    · exact f3 y
    · exact h.m.nf f y
theorem LI.model (h : LI CD CC H0 H S D M sd p sm q) (o : Out (ftM M q sm.cs.length) H H1) (g : Gw (ftM M q sm.cs.length) (ftM M q' sm'.cs.length) H) (m : MdAt H1 M sm' q') : LI CD CC H0 H1 S D M sd p sm' q' := by
  refine ⟨fun a u e0 => o _ _ (h.s _ _ e0) fun f => ?_, ?_, h.nS, h.d.keep fun a u ea z => o _ _ ea ?_, m, h.fd, fun a f => ?_⟩
  · have := (h.fm a f).1
    rw [this] at e0
    cases e0
  · obtain ⟨x, y, e⟩ := h.st
    exact ⟨x, y, o _ _ e fun f => (h.fm S f).2.1 rfl⟩
  · rcases z with f | ⟨r, rfl⟩
    · exact fun z => (h.fm a z).2.2 f
    · exact h.m.ntup ea
  · rcases g a f with z | z
    · exact h.fm a z
    · obtain ⟨z1, z2⟩ := h.nf0 z
      exact ⟨z1, z2, h.d.nfree z⟩
end
structure BI (st : DS) (i : Nat) : Prop where
  n : st.cs.length ≤ i
  h : st.chg.length ≤ i
  o : ∀ c ∈ st.cs, c.o.length ≤ 3 * i
  s : ∀ c ∈ st.cs, c.s ≤ c.o.length
theorem BI.mono {st : DS} {i : Nat} (h : BI st i) : BI st (i + 1) := ⟨by have := h.n; omega, by have := h.h; omega, fun c hc => by have := h.o c hc; omega, h.s⟩
theorem BI.lim {st : DS} {i : Nat} (h : BI st i) (l : Option Nat) : BI { st with lim := l } i := ⟨h.n, h.h, h.o, h.s⟩
theorem BI.bd {st : DS} {i : Nat} (h : BI st i) (hi : i ≤ 41) {os : List Int} (hl : os.length ≤ 3) : Bd st os := ⟨fun c hc => by have := h.o c hc; omega, h.s, by have := h.n; omega, by have := h.h; omega, by omega⟩
theorem mem_set {α : Type} {l : List α} {i : Nat} {a x : α} (h : x ∈ l.set i a) : x ∈ l ∨ x = a := by
  rcases List.mem_or_eq_of_mem_set h with z | z
  · exact .inl z
  · exact .inr z
theorem BI.did {st st' : DS} {i : Nat} (h : BI st i) {d : Dw} {n o : Str} {os : List Int} (hl : os.length ≤ 3) (g : Did st d n o os st') : BI st' (i + 1) := by
  have up : ∀ {c : Cn}, c ∈ st.cs → c.o.length ≤ 3 * (i + 1) := fun hc => by have := h.o _ hc; omega
  have hn := h.n
  have hh := h.h
  cases g with
  | app hn2 =>
    unfold DS.app
    cases e : tget st.tick.tab n with
    | none =>
      refine ⟨?_, ?_, fun c hc => ?_, fun c hc => ?_⟩
      · show ((st.cs ++ [(⟨[], 0⟩ : Cn)]).set _ _).length ≤ _
        rw [List.length_set, List.length_append]
        show st.cs.length + 1 ≤ i + 1
        omega
      · show (st.chg ++ [_]).length ≤ _
        rw [List.length_append]
        show st.chg.length + 1 ≤ i + 1
        omega
      · rcases mem_set (show c ∈ (st.cs ++ [(⟨[], 0⟩ : Cn)]).set _ _ from hc) with z | rfl
        · rcases List.mem_append.mp z with z | z
          · exact up z
          · rw [List.mem_singleton.mp z]
            exact Nat.zero_le _
        · show os.length ≤ _
          omega
      · rcases mem_set (show c ∈ (st.cs ++ [(⟨[], 0⟩ : Cn)]).set _ _ from hc) with z | rfl
        · rcases List.mem_append.mp z with z | z
          · exact h.s c z
          · rw [List.mem_singleton.mp z]
            exact Nat.zero_le _
        · exact Nat.zero_le _
    | some j =>
      show BI (match st.cs[j]? with | some c => st.tick.setc j ⟨c.o ++ os, c.s⟩ | none => st.tick) (i + 1)
      cases e2 : st.cs[j]? with
      | none => exact ⟨by show st.cs.length ≤ _; omega, by show st.chg.length ≤ _; omega, fun c hc => up hc, h.s⟩
      | some c0 =>
        have h0 := List.mem_of_getElem? e2
        refine ⟨?_, by show st.chg.length ≤ _; omega, fun c hc => ?_, fun c hc => ?_⟩
        · show (st.cs.set _ _).length ≤ _
          rw [List.length_set]
          omega
        · rcases mem_set (show c ∈ st.cs.set _ _ from hc) with z | rfl
          · exact up z
          · show (c0.o ++ os).length ≤ _
            rw [List.length_append]
            have := h.o _ h0
            omega
        · rcases mem_set (show c ∈ st.cs.set _ _ from hc) with z | rfl
          · exact h.s c z
          · show c0.s ≤ (c0.o ++ os).length
            rw [List.length_append]
            have := h.s _ h0
            omega
  | @syn _ _ _ j c0 ht hc0 =>
    have h0 := List.mem_of_getElem? hc0
    refine ⟨?_, by show st.chg.length ≤ _; omega, fun c hc => ?_, fun c hc => ?_⟩
    · show (st.cs.set _ _).length ≤ _
      rw [List.length_set]
      omega
    · rcases mem_set (show c ∈ st.cs.set _ _ from hc) with z | rfl
      · exact up z
      · show c0.o.length ≤ _
        exact up h0
    · rcases mem_set (show c ∈ st.cs.set _ _ from hc) with z | rfl
      · exact h.s c z
      · exact Nat.le_refl _
  | ren ht ho => exact ⟨by show st.cs.length ≤ _; omega, by show (st.chg ++ [_]).length ≤ _; rw [List.length_append]; show st.chg.length + 1 ≤ _; omega, fun c hc => up hc, h.s⟩
  | rem ht => exact ⟨by show st.cs.length ≤ _; omega, by show (st.chg ++ [_]).length ≤ _; rw [List.length_append]; show st.chg.length + 1 ≤ _; omega, fun c hc => up hc, h.s⟩
  | nms => exact ⟨by show st.cs.length ≤ _; omega, Nat.zero_le _, fun c hc => up hc, h.s⟩
/-! what is held -/
theorem tput_new {t : Tb} {n : Str} {i : Nat} (h : n ∉ t.map (·.1)) : tput t n i = t ++ [(n, i)] := by
  unfold tput
  rw [if_neg]
  intro z
  obtain ⟨p, hp, e⟩ := List.any_eq_true.mp z
  exact h (List.mem_map.mpr ⟨p, hp, of_decide_eq_true e⟩)
abbrev nms (ps : Fl) : List Str := ps.map (fun q : Str × List Int => q.1)
theorem hld_tab (ps : Fl) : (nms ps).Nodup → (hld ps).tab.map (·.1) = nms ps ∧ ∀ (i : Nat) (q : Str × List Int), ps[i]? = some q → (hld ps).tab[i]? = some (q.1, i) := by
  refine snocI (P := fun ps : Fl => (nms ps).Nodup → (hld ps).tab.map (·.1) = nms ps ∧ ∀ (i : Nat) (q : Str × List Int), ps[i]? = some q → (hld ps).tab[i]? = some (q.1, i)) (fun _ => ⟨rfl, fun i q h => by simp at h⟩) (fun l a ih nd => ?_) ps
  have nd2 : (nms l ++ [a.1]).Nodup := by
    have : nms (l ++ [a]) = nms l ++ [a.1] := by
      show (l ++ [a]).map _ = _
      rw [List.map_append]
      rfl
    rw [← this]
    exact nd
  rw [List.nodup_append] at nd2
  obtain ⟨n1, n2, n3⟩ := nd2
  obtain ⟨h1, h2⟩ := ih n1
  have len : (hld l).cs.length = l.length := by rw [(hld_ok l).2.2.2.2, List.length_map]
  have tl : (hld l).tab.length = l.length := by
    have := congrArg List.length h1
    rwa [List.length_map, List.length_map] at this
  have e : (hld (l ++ [a])).tab = (hld l).tab ++ [(a.1, l.length)] := by
    rw [hld_snoc]
    show tput (hld l).tab a.1 (hld l).cs.length = _
    rw [len, tput_new]
    rw [h1]
    exact fun z => n3 _ z _ (List.mem_singleton.mpr rfl) rfl
  rw [e]
  refine ⟨?_, fun i q hq => ?_⟩
  · rw [List.map_append, h1]
    show _ = (l ++ [a]).map _
    rw [List.map_append]
    rfl
  · rcases Nat.lt_trichotomy i l.length with hi | hi | hi
    · rw [List.getElem?_append_left hi] at hq
      rw [List.getElem?_append_left (by omega)]
      exact h2 i q hq
    · subst hi
      rw [List.getElem?_append_right (Nat.le_refl _), Nat.sub_self] at hq
      obtain rfl := Option.some.inj hq
      rw [List.getElem?_append_right (by omega), tl, Nat.sub_self]
      rfl
    · rw [List.getElem?_eq_none (by rw [List.length_append]; show l.length + 1 ≤ i; omega)] at hq
      cases hq
theorem hld_get {ps : Fl} (nd : (nms ps).Nodup) {i : Nat} {q : Str × List Int} (hq : ps[i]? = some q) : tget (hld ps).tab q.1 = some i ∧ (hld ps).cs[i]? = some ⟨q.2, q.2.length⟩ := by
  obtain ⟨h1, h2⟩ := hld_tab ps nd
  refine ⟨tget_in (p := (q.1, i)) (by rw [h1]; exact nd) (List.mem_of_getElem? (h2 i q hq)), ?_⟩
  rw [(hld_ok ps).2.2.2.2, List.getElem?_map, hq]
  rfl
theorem olv_sure (os : List Int) (cs : List Int) : olv ⟨os, os.length⟩ cs = os := by
  have e : olr ⟨os, os.length⟩ cs = [] := by
    unfold olr
    rw [List.drop_length, List.take_nil]
  unfold olv
  rw [if_neg fun z => z.1 e, e, List.append_nil]
  exact List.take_length
theorem relost {ps : Fl} (nd : (nms ps).Nodup) (hs : srt (nms ps) = nms ps) (cs : List Int) : lsP (hld ps) cs = ps := by
  obtain ⟨h1, h2, h3, h4, h5⟩ := hld_ok ps
  obtain ⟨t1, t2⟩ := hld_tab ps nd
  have eT : lsT (hld ps) cs = (hld ps).tab := by
    unfold lsT
    rw [h2, h1, List.take_nil]
    rfl
  have eN : lsN (hld ps) cs = nms ps := by
    unfold lsN
    rw [eT, t1, hs]
  unfold lsP
  rw [eN, eT]
  have key : ∀ (l : Fl), (∀ q ∈ l, q ∈ ps) → ∀ (a : Fl × List Int), ((nms l).foldl (stp (hld ps) (hld ps).tab) a).1 = a.1 ++ l := fun l => by
    induction l with
    | nil => intro _ a; exact (List.append_nil _).symm
    | cons x r ih =>
      intro hm a
      show ((nms r).foldl _ (stp (hld ps) (hld ps).tab a x.1)).1 = _
      rw [ih fun q hq => hm q (List.mem_cons_of_mem _ hq)]
      unfold stp
      obtain ⟨i, hi, e⟩ := List.getElem_of_mem (hm x List.mem_cons_self)
      obtain ⟨g1, g2⟩ := hld_get nd (i := i) (q := x) (by rw [List.getElem?_eq_getElem hi, e])
      have ec : cnm (hld ps) (hld ps).tab x.1 = ⟨x.2, x.2.length⟩ := by
        unfold cnm
        rw [g1]
        show ((hld ps).cs[i]?).getD _ = _
        rw [g2]
        rfl
      rw [ec, olv_sure, List.append_assoc]
      rfl
  exact key ps (fun q hq => hq) ([], cs.tail)
theorem nodup_of_map {ps : Fl} {l : List Str} (h : nms ps = l) (n : l.Nodup) : (nms ps).Nodup := by rw [h]; exact n
theorem lsP_nms (st : DS) (cs : List Int) : nms (lsP st cs) = lsN st cs := fold_fst _ _ _ _
theorem srt_srt (l : List Str) : srt (srt l) = srt l := by
  unfold srt
  refine List.filter_congr fun a ha => ?_
  exact decide_eq_decide.mpr ⟨fun z => of_decide_eq_true (List.mem_filter.mp z).2, fun z => List.mem_filter.mpr ⟨ha, decide_eq_true z⟩⟩
end K2

namespace K2
open PySem L2
theorem atW {v : Int} (h0 : 0 ≤ v) (h1 : v < 6) : ∃ d : Dw, atI [V.str "append", .str "append", .str "sync", .str "rename", .str "remove", .str "names"] v = some (.str d.s) := by
  obtain ⟨k, rfl⟩ : ∃ k : Nat, v = (k : Int) := ⟨v.toNat, by omega⟩
  match k, h1 with
  | 0, _ => exact ⟨.app, rfl⟩
  | 1, _ => exact ⟨.app, rfl⟩
  | 2, _ => exact ⟨.syn, rfl⟩
  | 3, _ => exact ⟨.ren, rfl⟩
  | 4, _ => exact ⟨.rem, rfl⟩
  | 5, _ => exact ⟨.nms, rfl⟩
  | n + 6, h => exact absurd h (by omega)
theorem atN {v : Int} (h0 : 0 ≤ v) (h1 : v < 4) : ∃ n : Str, n ∈ NM ∧ atI [V.str "a", .str "b", .str "root", .str "root.new"] v = some (.str n) := by
  obtain ⟨k, rfl⟩ : ∃ k : Nat, v = (k : Int) := ⟨v.toNat, by omega⟩
  match k, h1 with
  | 0, _ => exact ⟨"a", by decide +kernel, rfl⟩
  | 1, _ => exact ⟨"b", by decide +kernel, rfl⟩
  | 2, _ => exact ⟨"root", by decide +kernel, rfl⟩
  | 3, _ => exact ⟨"root.new", by decide +kernel, rfl⟩
  | n + 4, h => exact absurd h (by omega)
theorem atL {v : Int} (h0 : 0 ≤ v) (h1 : v < 4) : ∃ l : Option Nat, atI [V.non, .int 0, .int 1, .int 3] v = some (limV l) := by
  obtain ⟨k, rfl⟩ : ∃ k : Nat, v = (k : Int) := ⟨v.toNat, by omega⟩
  match k, h1 with
  | 0, _ => exact ⟨none, rfl⟩
  | 1, _ => exact ⟨some 0, rfl⟩
  | 2, _ => exact ⟨some 1, rfl⟩
  | 3, _ => exact ⟨some 3, rfl⟩
  | n + 4, h => exact absurd h (by omega)
def Dw.isA : Dw → Bool
  | .app => true
  | _ => false
theorem wA (d : Dw) : (!decide (V.str d.s = V.str "append")) = !d.isA := by cases d <;> decide +kernel
structure Ot (H0 : Hp) (S D M : Addr) (sd : DS) (p : DP) (sm : DS) (q : MP) (L : Addr) : Prop where
  a : H0 L = none
  b : L ≠ S
  c : ¬ foot D p sd.cs.length L
  d : ¬ ftM M q sm.cs.length L
section
variable {CD CC : Addr} {H0 H H1 : Hp} {S D M L : Addr} {sd sm sd' sm' : DS} {p p' : DP} {q q' : MP}
theorem LI.ot (h : LI CD CC H0 H S D M sd p sm q) (e : H L = none) : Ot H0 S D M sd p sm q L := by
  obtain ⟨z1, z2⟩ := h.nf0 e
  exact ⟨z1, z2, h.d.nfree e, h.m.nfree e⟩
theorem LI.put (h : LI CD CC H0 H S D M sd p sm q) (o : Ot H0 S D M sd p sm q L) {u : HO} (nt : ∀ r, H L ≠ some (.tup r)) : LI CD CC H0 (upd H L u) S D M sd p sm q := by
  have k : ∀ a x, H a = some x → a ≠ L → (upd H L u) a = some x := fun a x e n => by rw [upd_ne n]; exact e
  refine ⟨fun a x e0 => k _ _ (h.s _ _ e0) fun z => (by rw [z, o.a] at e0; cases e0), ?_, h.nS, h.d.keep fun a x ea z => k _ _ ea ?_, h.m.keep fun a x ea z => k _ _ ea ?_, h.fd, h.fm⟩
  · obtain ⟨x, y, e⟩ := h.st
    exact ⟨x, y, k _ _ e o.b.symm⟩
  · rcases z with f | ⟨r, rfl⟩
    · exact fun z => o.c (z ▸ f)
    · exact fun z => nt r (z ▸ ea)
  · rcases z with f | ⟨r, rfl⟩
    · exact fun z => o.d (z ▸ f)
    · exact fun z => nt r (z ▸ ea)
theorem LI.limD (h : LI CD CC H0 H S D M sd p sm q) {l : Option Nat} (k : ∀ a o, H a = some o → a ≠ D → H1 a = some o) (d : DkAt CD CC H1 D { sd with lim := l } p) : LI CD CC H0 H1 S D M { sd with lim := l } p sm q :=
  h.disk (out_d k) Gw.refl d
theorem LI.limM (h : LI CD CC H0 H S D M sd p sm q) {l : Option Nat} : LI CD CC H0 (upd H M (.dK (putK (mdK q sm) (.inr "limit") (limV l)))) S D M sd p { sm with lim := l } q := by
  refine h.model (fun a x e nf => ?_) Gw.refl ?_
  · rw [upd_ne fun z => nf (.inl z)]
    exact e
  · refine h.m.upM (l := l) (n := sm.done) (fun a x e n => by rw [upd_ne n]; exact e) ?_
    rw [upd_same]
    exact congrArg (fun z => some (HO.dK z)) (md_pl (q := q) (st := sm) l)
theorem md_mk (q : MP) : mergeK [] (mdK q ds0) = mdK q ds0 := by kernel_rfl
/-- at first -/
theorem LI.start {H2 H3 : Hp} {lc td sdd cl : Addr} (s : Same H0 H2) (nS : H0 S = none) (hS : SAt H2 S) (hd : DkAt CD CC H2 D ds0 p) (fd : ∀ a, foot D p 0 a → H0 a = none ∧ a ≠ S)
    (nM : H2 M = none) (nl : H2 lc = none) (nt : H2 td = none) (ns : H2 sdd = none) (nc : H2 cl = none) (s3 : Same H2 H3) (eM : H3 M = some (.dK (mdK ⟨lc, td, sdd, cl, fun _ => 0, fun _ => 0⟩ ds0))) (el : H3 lc = some (.lst [])) (et : H3 td = some (.dK [])) (es : H3 sdd = some (.dK [])) (ec : H3 cl = some (.lst []))
    (n1 : td ≠ M) (n2 : sdd ≠ M) (n3 : lc ≠ cl) : LI CD CC H0 H3 S D M ds0 p ds0 ⟨lc, td, sdd, cl, fun _ => 0, fun _ => 0⟩ := by
  obtain ⟨x, y, eS⟩ := hS
  have nz : ∀ {a}, H2 a = none → H0 a = none ∧ a ≠ S ∧ ¬ foot D p 0 a := fun {a} e => ⟨s.free e, fun z => (by rw [z, eS] at e; cases e), hd.nfree e⟩
  refine ⟨s.trans s3, ⟨x, y, s3 _ _ eS⟩, nS, hd.same s3, ⟨eM, et, es, el, fun i c h => by simp [ds0] at h, ⟨[], ec, rfl, fun i c h => by simp [ds0] at h⟩, n1, n2, n3, fun i h => absurd h (Nat.not_lt_zero _), fun i j h => absurd h (Nat.not_lt_zero _), fun i j h => absurd h (Nat.not_lt_zero _)⟩, fd, fun a f => ?_⟩
  rcases f with f | f | f | f | f | ⟨i, hi, _⟩
  · rw [f]; exact nz nM
  · rw [f]; exact nz nt
  · rw [f]; exact nz ns
  · rw [f]; exact nz nl
  · rw [f]; exact nz nc
  · exact absurd hi (Nat.not_lt_zero _)
end
theorem LI.exc {CD CC : Addr} {H0 H H1 : Hp} {S D M L : Addr} {sd sm : DS} {p : DP} {q : MP} (h : LI CD CC H0 H S D M sd p sm q) (o : Ot H0 S D M sd p sm q L) (nt : ∀ r, H L ≠ some (.tup r)) (k : ∀ a x, H a = some x → a ≠ L → H1 a = some x) : LI CD CC H0 H1 S D M sd p sm q := by
  refine ⟨fun a x e0 => k _ _ (h.s _ _ e0) fun z => (by rw [z, o.a] at e0; cases e0), ?_, h.nS, h.d.keep fun a x ea z => k _ _ ea ?_, h.m.keep fun a x ea z => k _ _ ea ?_, h.fd, h.fm⟩
  · obtain ⟨x, y, e⟩ := h.st
    exact ⟨x, y, k _ _ e o.b.symm⟩
  · rcases z with f | ⟨r, rfl⟩
    · exact fun z => o.c (z ▸ f)
    · exact fun z => nt r (z ▸ ea)
  · rcases z with f | ⟨r, rfl⟩
    · exact fun z => o.d (z ▸ f)
    · exact fun z => nt r (z ▸ ea)
theorem FlAt.move {N : Addr → Prop} {H H1 : Hp} {F : Addr} {ps : Fl} (h : FlAt N H F ps) (kF : ∀ o, H F = some o → H1 F = some o) (k : ∀ a xs, H a = some (.lst xs) → ¬ N a → H1 a = some (.lst xs)) : FlAt N H1 F ps := by
  obtain ⟨kvs, e, hl, f⟩ := h
  refine ⟨kvs, kF _ e, hl, fun i q hq => ?_⟩
  obtain ⟨a, z1, z2, z3⟩ := f i q hq
  exact ⟨a, z1, k _ _ z2 z3, z3⟩
def fls (st : DS) : Fl := st.tab.map fun p => (p.1, (st.cs.getD p.2 ⟨[], 0⟩).o)
theorem fls_nms (st : DS) : nms (fls st) = st.tab.map (·.1) := by
  show (st.tab.map _).map _ = _
  rw [List.map_map]
  rfl
theorem fls_has {st : DS} (g : Gd st) (hb : ∀ c ∈ st.cs, c.o.length ≤ 1000) : ∀ q ∈ fls st, ∃ i c, tget st.tab q.1 = some i ∧ st.cs[i]? = some c ∧ c.o = q.2 ∧ c.o.length ≤ 1000 := fun q hq => by
  obtain ⟨p, hp, rfl⟩ := List.mem_map.mp hq
  have hi := g.T.ix p hp
  refine ⟨p.2, st.cs[p.2], tget_in g.T.nd hp, List.getElem?_eq_getElem hi, ?_, hb _ (List.getElem_mem hi)⟩
  show _ = (st.cs.getD p.2 ⟨[], 0⟩).o
  rw [List.getD_eq_getElem?_getD, List.getElem?_eq_getElem hi]
  rfl
theorem hld_has {ps : Fl} (nd : (nms ps).Nodup) (hb : ∀ q ∈ ps, q.2.length ≤ 1000) : ∀ q ∈ ps, ∃ i c, tget (hld ps).tab q.1 = some i ∧ (hld ps).cs[i]? = some c ∧ c.o = q.2 ∧ c.o.length ≤ 1000 := fun q hq => by
  obtain ⟨i, hi, e⟩ := List.getElem_of_mem hq
  obtain ⟨g1, g2⟩ := hld_get nd (i := i) (q := q) (by rw [List.getElem?_eq_getElem hi, e])
  exact ⟨i, _, g1, g2, rfl, hb q hq⟩
theorem lsP_len {st : DS} (hb : ∀ c ∈ st.cs, c.o.length ≤ 900) (hs : ∀ c ∈ st.cs, c.s ≤ c.o.length) (cs : List Int) : ∀ q ∈ lsP st cs, q.2.length ≤ 900 := by
  have cn : ∀ n, (cnm st (lsT st cs) n).o.length ≤ 900 ∧ (cnm st (lsT st cs) n).s ≤ (cnm st (lsT st cs) n).o.length := fun n => by
    unfold cnm
    cases e : (tget (lsT st cs) n).bind fun i => st.cs[i]? with
    | none => exact ⟨Nat.zero_le _, Nat.le_refl _⟩
    | some c =>
      have hc : c ∈ st.cs := by
        cases e2 : tget (lsT st cs) n with
        | none => rw [e2] at e; cases e
        | some i => rw [e2] at e; exact List.mem_of_getElem? e
      exact ⟨hb c hc, hs c hc⟩
  unfold lsP
  refine snocI (P := fun ns => ∀ q ∈ (ns.foldl (stp st (lsT st cs)) (([], cs.tail) : Fl × List Int)).1, q.2.length ≤ 900) (fun q h => absurd h List.not_mem_nil) (fun l n ih q hq => ?_) _
  rw [List.foldl_append] at hq
  have hq : q ∈ (l.foldl (stp st (lsT st cs)) (([], cs.tail) : Fl × List Int)).1 ++ [(n, olv (cnm st (lsT st cs) n) (l.foldl (stp st (lsT st cs)) (([], cs.tail) : Fl × List Int)).2)] := hq
  rcases List.mem_append.mp hq with z | z
  · exact ih q z
  · rw [List.mem_singleton.mp z]
    obtain ⟨c1, c2⟩ := cn n
    exact Nat.le_trans (olv_len _ _ c2) c1
theorem bi0 : BI ds0 0 := ⟨Nat.le_refl _, Nat.le_refl _, fun c h => absurd h List.not_mem_nil, fun c h => absurd h List.not_mem_nil⟩
end K2

namespace K2
open PySem L2
structure LawF (P : Program) (w : World) (K : PySem.W.Frag) (mg : Str → Option Value) (base : Heap) (CD CC CE : Addr) where
  (fDr fDe fDo fSa fLo fI fA fL fD fAp : Addr)
  (dDr dDe dDo dSa dLo dI dA dL dD dAp : FuncData)
  GDr : FnOk P w K mg base CX0 1 fDr dDr ["state", "script", "size"] (spDraw K)
  bDr : Binds K dDr ["state", "script", "size"] []
  kDr : PySem.W.keepIn K (.ref fDr) = true
  gDr : mg "_law_draw" = some (.ref fDr)
  GDe : FnOk P w K mg base CX0 3 fDe dDe ["model", "word", "name", "other", "octets"] spDeed
  bDe : Binds K dDe ["model", "word", "name", "other", "octets"] []
  kDe : PySem.W.keepIn K (.ref fDe) = true
  gDe : mg "_law_deed" = some (.ref fDe)
  GDo : FnOk P w K mg base CX0 5 fDo dDo ["disk", "word", "name", "other", "octets"] (spDone2 CD CC)
  bDo : Binds K dDo ["disk", "word", "name", "other", "octets"] []
  kDo : PySem.W.keepIn K (.ref fDo) = true
  gDo : mg "_law_done" = some (.ref fDo)
  GSa : FnOk P w K mg base CX0 2 fSa dSa ["disk", "files"] (spSame CD CC)
  bSa : Binds K dSa ["disk", "files"] []
  kSa : PySem.W.keepIn K (.ref fSa) = true
  gSa : mg "_law_same" = some (.ref fSa)
  GLo : FnOk P w K mg base CX0 2 fLo dLo ["model", "choices"] spLost
  bLo : Binds K dLo ["model", "choices"] []
  kLo : PySem.W.keepIn K (.ref fLo) = true
  gLo : mg "_law_lost" = some (.ref fLo)
  GI : FnOk P w K mg base CX0 1 fI dI ["self"] (spDInit CD CC)
  bI : Binds K dI ["self"] []
  MD : Mk K CD fI
  gCD : mg "Disk" = some (.ref CD)
  clD : Cls K CD
  GA : FnOk P w K mg base CX0 1 fA dA ["self", "count"] (spAllow CD CC)
  bA : Binds K dA ["self", "count"] []
  mA : Meth K CD "allow" fA
  GL : FnOk P w K mg base CX0 4 fL dL ["self", "choices"] (spLose K CD CC)
  bL : Binds K dL ["self", "choices"] []
  mL : Meth K CD "lose" fL
  GD : FnOk P w K mg base CX0 1 fD dD ["self"] (spDone CD CC)
  bD : Binds K dD ["self"] []
  mD : Meth K CD "done" fD
  GAp : FnOk P w K mg base (L2.CX P w) 4 fAp dAp ["self", "name", "octets"] (spAppend CD CC CE)
  bAp : Binds K dAp ["self", "name", "octets"] []
  mAp : Meth K CD "append" fAp
def spLaw (K : PySem.W.Frag) : Sp := fun vs H Q _ => ∃ (a : Addr) (ns : List Int), vs = [.ref a] ∧ SqL K H a (ns.map V.int) ∧ ns.length ≤ 63 ∧ ∀ H', Q (.bl true) H'
theorem scLaw : FnScope ["script", "state", "disk", "model", "turn", "names", "there", "word", "name", "other", "octets", "given", "due", "done", "told", "files", "choices", "left", "k"] ["script"] (defScope sLaw) := ⟨rfl, rfl, rfl, by decide +kernel, rfl, by decide +kernel, by decide +kernel⟩
section
variable {P : Program} {w : World} {K : PySem.W.Frag} {mg : Str → Option Value} {base : Heap}
theorem ok_law {f CD CC CE : Addr} {fd : FuncData} (F : Fun K "law" "law" sLaw f fd) (N : Nm mg) (Z : LawF P w K mg base CD CC CE) : FnOk P w K mg base CX0 6 f fd ["script"] (spLaw K) := by
  have GDr := Z.GDr
  have GDe := Z.GDe
  have GDo := Z.GDo
  have GSa := Z.GSa
  have GLo := Z.GLo
  have GI := Z.GI
  have GA := Z.GA
  have GL := Z.GL
  have GD := Z.GD
  have GAp := Z.GAp
  refine F.ok scLaw (fun vs H Q E h => ?_) (fun cdv A outer s H vs Q E hr h => ?_)
  · obtain ⟨a, ns, rfl, _⟩ := h
    rfl
  · obtain ⟨scr, ns, rfl, hS, hlen, q0⟩ := h
    have hu := hu_of hr
    have hr1 := hr.mono (j := 1) (by decide)
    have hr2 := hr.mono (j := 2) (by decide)
    have hr3 := hr.mono (j := 3) (by decide)
    have hr4 := hr.mono (j := 4) (by decide)
    refine ⟨_, (pss_cons (ps_set (i := 1) scLaw.nd rfl (.inr rfl) (pe_lst (pa_cons pe_int (pa_cons pe_int pa_nil))))
      (pss_cons (ps_set (i := 2) scLaw.nd rfl (.inl rfl) (pe_make0 Z.MD GI hr2 (by rfl) Z.gCD Z.bI .nil pass0))
      (pss_cons (ps_set (i := 3) scLaw.nd rfl (.inl rfl) (pe_disp (pps_cons pe_str (pe_lst pa_nil) (pps_cons pe_str pe_dnewK (pps_cons pe_str pe_dnewK (pps_cons pe_str (pe_lst pa_nil) (pps_cons pe_str pe_non (pps_cons pe_str pe_int pps_nil)))))) (by rfl) (by rfl) (fun z => by cases z) (by decide)))
      (Evl.pss_cut (ps_for PassesOwn.never rfl (pi_range1 (by rfl) N.range (pa_cons (pe_call GDr hr1 (by rfl) Z.gDr Z.kDr Z.bDr .nil pass0 (pa_cons (pv 1) (pa_cons (pv 0) (pa_cons pe_int pa_nil)))) pa_nil)) (pg_name (i := 4) scLaw.nd rfl (.inl rfl)) (pss_cons (ps_set (i := 5) scLaw.nd rfl (.inl rfl) (pe_lst (pa_cons pe_str (pa_cons pe_str (pa_cons pe_str (pa_cons pe_str pa_nil))))))
      (pss_cons (ps_set (i := 6) scLaw.nd rfl (.inl rfl) (pe_callB (call_sortedD rfl) (by rfl) N.sorted (by decide +kernel) (pa_cons (pe_dget hu (pv 3) pe_str (fun _ _ => rfl)) pa_nil)))
      (pss_cons (ps_set (i := 7) scLaw.nd rfl (.inl rfl) (pe_ix ix_list (pe_lst (pa_cons pe_str (pa_cons pe_str (pa_cons pe_str (pa_cons pe_str (pa_cons pe_str (pa_cons pe_str pa_nil))))))) (pe_call GDr hr1 (by rfl) Z.gDr Z.kDr Z.bDr .nil pass0 (pa_cons (pv 1) (pa_cons (pv 0) (pa_cons pe_int pa_nil)))) (fun _ _ => rfl)))
      (pss_cons (ps_set (i := 8) scLaw.nd rfl (.inl rfl) (pe_ix ix_list (pv 5) (pe_call GDr hr1 (by rfl) Z.gDr Z.kDr Z.bDr .nil pass0 (pa_cons (pv 1) (pa_cons (pv 0) (pa_cons pe_int pa_nil)))) (fun _ _ => rfl)))
      (Evl.pss_cut (ps_if (PW.pt (pw_and (pt_cmpR op_ne (pv 7) pe_str (nomark _)) (pw_and1 (pt_cmpR op_gt (pe_callB call_len_seq (by rfl) N.len PySem.boot_len (pa_cons (pv 6) pa_nil)) pe_int (nomark _))))) (pss_one (ps_set (i := 8) scLaw.nd rfl (.inl rfl) (pe_ix ix_list (pv 6) (pe_call GDr hr1 (by rfl) Z.gDr Z.kDr Z.bDr .nil pass0 (pa_cons (pv 1) (pa_cons (pv 0) (pa_cons (pe_callB call_len_seq (by rfl) N.len PySem.boot_len (pa_cons (pv 6) pa_nil)) pa_nil)))) (fun _ _ => rfl)))) pss_nil)
      (pss_cons (ps_set (i := 9) scLaw.nd rfl (.inl rfl) (pe_ix ix_list (pv 5) (pe_call GDr hr1 (by rfl) Z.gDr Z.kDr Z.bDr .nil pass0 (pa_cons (pv 1) (pa_cons (pv 0) (pa_cons pe_int pa_nil)))) (fun _ _ => rfl)))
      (Evl.pss_cut (ps_setLc (i := 10) (own := [("k", 18)]) (g := gName 18) (tt := tYes) rfl scLaw.nd rfl rfl (sw_true rfl rfl rfl (by decide +kernel)) (pi_range1 (by rfl) N.range (pa_cons (pe_call GDr hr1 (by rfl) Z.gDr Z.kDr Z.bDr .nil pass0 (pa_cons (pv 1) (pa_cons (pv 0) (pa_cons pe_int pa_nil)))) pa_nil))
          (blkOk_by (N := ["script", "state", "disk", "model", "turn", "names", "there", "word", "name", "other", "octets", "given", "due", "done", "told", "files", "choices", "left", "k"]) (sc := defScope sLaw) (by decide +kernel))
          (fun _ _ _ _ _ => pg_name (i := 18) scLaw.nd rfl (Or.inl rfl)) (fun _ _ _ _ _ => pts_nil) (fun _ _ _ _ _ => pe_op op_add pe_int (pe_call GDr hr1 (by rfl) Z.gDr Z.kDr Z.bDr .nil pass0 (pa_cons (pv 1) (pa_cons (pv 0) (pa_cons pe_int pa_nil))))))
      (Evl.pss_cut (ps_if (pt_cmpR op_eq (pe_call GDr hr1 (by rfl) Z.gDr Z.kDr Z.bDr .nil pass0 (pa_cons (pv 1) (pa_cons (pv 0) (pa_cons pe_int pa_nil)))) pe_int (nomark _)) (pss_cons (ps_dput hu (pv 3) pe_str (pe_ix ix_list (pe_lst (pa_cons pe_non (pa_cons pe_int (pa_cons pe_int (pa_cons pe_int pa_nil))))) (pe_call GDr hr1 (by rfl) Z.gDr Z.kDr Z.bDr .nil pass0 (pa_cons (pv 1) (pa_cons (pv 0) (pa_cons pe_int pa_nil)))) (fun _ _ => rfl)) rfl)
      (pss_one (ps_expr (pe_meth (pv 2) Z.clD Z.mA GA hr1 Z.bA .nil pass0 (pa_cons (pe_dget hu (pv 3) pe_str (fun _ _ => rfl)) pa_nil))))) pss_nil)
      (pss_one (ps_if (PW.pt (pw_and (PW.pt (pw_or (pt_cmpR op_eq (pv 7) pe_str (nomark _)) (pw_or (pt_cmpR op_eq (pv 7) pe_str (nomark _)) (pw_or1 (pt_cmpR op_gt (pe_callB call_len_seq (by rfl) N.len PySem.boot_len (pa_cons (pv 6) pa_nil)) pe_int (nomark _)))))) (pw_and1 (pt_not (PW.pt (pw_and (pt_cmpR op_eq (pv 7) pe_str (nomark _)) (pw_and1 (pt_cmpR op_eq (pv 9) (pv 8) (nomark _))))))))) (pss_cons (ps_set (i := 11) scLaw.nd rfl (.inl rfl) (pe_callTy call_list_of (by rfl) N.list (by decide +kernel) (pa_cons (pv 10) pa_nil)))
      (pss_cons (ps_set (i := 12) scLaw.nd rfl (.inl rfl) (pe_dget hu (pv 3) pe_str (fun _ _ => rfl)))
      (pss_cons (ps_set (i := 13) scLaw.nd rfl (.inl rfl) (pe_call GDe hr3 (by rfl) Z.gDe Z.kDe Z.bDe .nil pass0 (pa_cons (pv 3) (pa_cons (pv 7) (pa_cons (pv 8) (pa_cons (pv 9) (pa_cons (pv 10) pa_nil)))))))
      (pss_cons (ps_set (i := 14) scLaw.nd rfl (.inl rfl) (pe_call GDo hr (by rfl) Z.gDo Z.kDo Z.bDo .nil pass0 (pa_cons (pv 2) (pa_cons (pv 7) (pa_cons (pv 8) (pa_cons (pv 9) (pa_cons (pv 11) pa_nil)))))))
      (pss_one (ps_if (PW.pt (pw_or (pt_cmpR (op_neD hr.units) (pv 11) (pv 10) (nomark _)) (pw_or (PW.pt (pw_and (pt_val (pv 13)) (pw_and1 (pt_cmpR op_notN (pv 14) pe_non (nomark _))))) (pw_or1 (PW.pt (pw_and (pt_not (pt_val (pv 13))) (pw_and1 (pt_cmpR op_ne (pv 14) (pv 12) (nomark _))))))))) (pss_one (ps_ret pe_bl)) pss_nil)))))) pss_nil)))))))))))
      (pss_cons (ps_set (i := 15) scLaw.nd rfl (.inl rfl) (pe_dnewK))
      (Evl.pss_cut (ps_lock (ps_for PassesOwn.never rfl (pi_keys (pe_dget hu (pv 3) pe_str (fun _ _ => rfl))) (pg_name (i := 8) scLaw.nd rfl (.inl rfl)) (pss_one (ps_dput hu (pv 15) (pv 8) (pe_ix ix_list (pe_ix ix_list (pe_dget hu (pv 3) pe_str (fun _ _ => rfl)) (pe_dget hu (pe_dget hu (pv 3) pe_str (fun _ _ => rfl)) (pv 8) (fun _ _ => rfl)) (fun _ _ => rfl)) pe_int (fun _ _ => rfl)) rfl))))
      (Evl.pss_cut (ps_setLc (i := 16) (own := [("k", 18)]) (g := gName 18) (tt := tYes) rfl scLaw.nd rfl rfl (sw_true rfl rfl rfl (by decide +kernel)) (pi_range1 (by rfl) N.range (pa_cons (pe_call GDr hr1 (by rfl) Z.gDr Z.kDr Z.bDr .nil pass0 (pa_cons (pv 1) (pa_cons (pv 0) (pa_cons pe_int pa_nil)))) pa_nil))
          (blkOk_by (N := ["script", "state", "disk", "model", "turn", "names", "there", "word", "name", "other", "octets", "given", "due", "done", "told", "files", "choices", "left", "k"]) (sc := defScope sLaw) (by decide +kernel))
          (fun _ _ _ _ _ => pg_name (i := 18) scLaw.nd rfl (Or.inl rfl)) (fun _ _ _ _ _ => pts_nil) (fun _ _ _ _ _ => pe_call GDr hr1 (by rfl) Z.gDr Z.kDr Z.bDr .nil pass0 (pa_cons (pv 1) (pa_cons (pv 0) (pa_cons pe_int pa_nil)))))
      (pss_cons (ps_set (i := 11) scLaw.nd rfl (.inl rfl) (pe_callTy call_list_of (by rfl) N.list (by decide +kernel) (pa_cons (pv 16) pa_nil)))
      (pss_cons (ps_set (i := 17) scLaw.nd rfl (.inl rfl) (pe_meth (pv 2) Z.clD Z.mL GL hr4 Z.bL .nil pass0 (pa_cons (pv 11) pa_nil)))
      (pss_cons (ps_if (PW.pt (pw_or (pt_cmpR (op_neD hr.units) (pv 11) (pv 16) (nomark _)) (pw_or (pt_cmpR op_ne (pe_meth0 (pv 2) Z.clD Z.mD GD hr1 Z.bD .nil pass0) (pe_dget hu (pv 3) pe_str (fun _ _ => rfl)) (nomark _)) (pw_or1 (pt_not (pt_val (pe_call GSa hr2 (by rfl) Z.gSa Z.kSa Z.bSa .nil pass0 (pa_cons (pv 2) (pa_cons (pv 15) pa_nil))))))))) (pss_one (ps_ret pe_bl)) pss_nil)
      (pss_cons (ps_set (i := 12) scLaw.nd rfl (.inl rfl) (pe_call GLo hr2 (by rfl) Z.gLo Z.kLo Z.bLo .nil pass0 (pa_cons (pv 3) (pa_cons (pv 16) pa_nil))))
      (pss_cons (ps_if (PW.pt (pw_or (pt_not (pt_val (pe_call GSa hr2 (by rfl) Z.gSa Z.kSa Z.bSa .nil pass0 (pa_cons (pv 17) (pa_cons (pv 12) pa_nil))))) (pw_or (pt_cmpR op_ne (pe_meth0 (pv 17) Z.clD Z.mD GD hr1 Z.bD .nil pass0) pe_int (nomark _)) (pw_or1 (pt_not (pt_val (pe_call GSa hr2 (by rfl) Z.gSa Z.kSa Z.bSa .nil pass0 (pa_cons (pe_meth (pv 17) Z.clD Z.mL GL hr4 Z.bL .nil pass0 (pa_cons (pv 16) pa_nil)) (pa_cons (pv 12) pa_nil))))))))) (pss_one (ps_ret pe_bl)) pss_nil)
      (pss_cons (ps_expr (pe_meth (pv 17) Z.clD Z.mAp GAp hr4 Z.bAp .nil passNo (pa_cons pe_str (pa_cons (pe_lst (pa_cons pe_int pa_nil)) pa_nil))))
      (pss_one (ps_ret (pe_call GSa hr2 (by rfl) Z.gSa Z.kSa Z.bSa .nil pass0 (pa_cons (pv 2) (pa_cons (pv 15) pa_nil)))))))))))))))))), ?_⟩
    refine ⟨(by show 2 ≤ sizeLine; decide), fun S nS => ?_⟩
    have s1 : Same H (upd H S (.lst [.int 0, .int 0])) := same_new nS
    have hS1 : (upd H S (.lst [.int 0, .int 0])) S = some (.lst [.int 0, .int 0]) := upd_same
    intro D dx nD ndx nDe
    generalize (upd H S (.lst [.int 0, .int 0])) = H1 at s1 hS1 nD ndx nDe ⊢
    have nDS : S ≠ D := ne_of_none hS1 nD
    refine ⟨D, dx, rfl, upd_same, fun H2 p k2 f1 f2 f3 hd2 => ⟨rfl, ?_⟩⟩
    have s2 : Same H1 H2 := mk_same nD ndx k2
    have hS2 := s2 _ _ hS1
    have fr : ∀ {a}, (upd (upd H1 dx (.own D)) D (.ins CD dx [])) a = none → H1 a = none := fun {a} e => by
      have e1 : a ≠ D := fun z => by rw [z, upd_same] at e; cases e
      rw [upd_ne e1] at e
      have e2 : a ≠ dx := fun z => by rw [z, upd_same] at e; cases e
      rw [upd_ne e2] at e
      exact e
    have fd : ∀ a, foot D p 0 a → H a = none ∧ a ≠ S := fun a f => by
      have key : H1 a = none := by
        rcases f with z | z | z | z | ⟨i, hi, _⟩
        · rw [z]; exact nD
        · rw [z]; exact fr f1
        · rw [z]; exact fr f2
        · rw [z]; exact fr f3
        · exact absurd hi (Nat.not_lt_zero _)
      exact ⟨s1.free key, fun z => (by rw [z, hS1] at key; cases key)⟩
    have s02 := s1.trans s2
    intro M nM
    refine ⟨Nat.zero_le _, fun lc nlc => ?_⟩
    have x1 : lc ≠ M := fun z => by rw [z, upd_same] at nlc; cases nlc
    intro td ntd
    have x2 : td ≠ lc := fun z => by rw [z, upd_same] at ntd; cases ntd
    have x3 : td ≠ M := fun z => by rw [z, upd_ne x1.symm, upd_same] at ntd; cases ntd
    intro sdd nsd
    have x4 : sdd ≠ td := fun z => by rw [z, upd_same] at nsd; cases nsd
    have x5 : sdd ≠ lc := fun z => by rw [z, upd_ne x2.symm, upd_same] at nsd; cases nsd
    have x6 : sdd ≠ M := fun z => by rw [z, upd_ne x3.symm, upd_ne x1.symm, upd_same] at nsd; cases nsd
    refine ⟨Nat.zero_le _, fun cl ncl => ?_⟩
    have x7 : cl ≠ sdd := fun z => by rw [z, upd_same] at ncl; cases ncl
    have x8 : cl ≠ td := fun z => by rw [z, upd_ne x4.symm, upd_same] at ncl; cases ncl
    have x9 : cl ≠ lc := fun z => by rw [z, upd_ne x5.symm, upd_ne x2.symm, upd_same] at ncl; cases ncl
    have x0 : cl ≠ M := fun z => by rw [z, upd_ne x6.symm, upd_ne x3.symm, upd_ne x1.symm, upd_same] at ncl; cases ncl
    rw [upd_ne x7, upd_ne x8, upd_ne x9, upd_ne x0] at ncl
    rw [upd_ne x4, upd_ne x5, upd_ne x6] at nsd
    rw [upd_ne x2, upd_ne x3] at ntd
    rw [upd_ne x1] at nlc
    refine ⟨by rw [upd_ne x0.symm, upd_ne x6.symm, upd_ne x3.symm, upd_ne x1.symm, upd_same], mdK ⟨lc, td, sdd, cl, fun _ => 0, fun _ => 0⟩ ds0, rfl, (by show 6 ≤ 15; decide), ?_⟩
    have L3 := LI.start (M := M) (lc := lc) (td := td) (sdd := sdd) (cl := cl) (CC := CC)
      (H3 := upd (upd (upd (upd (upd (upd H2 M (.dK [])) lc (.lst [])) td (.dK [])) sdd (.dK [])) cl (.lst [])) M (.dK (mergeK [] (mdK ⟨lc, td, sdd, cl, fun _ => 0, fun _ => 0⟩ ds0)))) s02 nS ⟨0, 0, hS2⟩ hd2 fd nM nlc ntd nsd ncl
      (fun a o e => by rw [upd_ne (ne_of_none e nM), upd_ne (ne_of_none e ncl), upd_ne (ne_of_none e nsd), upd_ne (ne_of_none e ntd), upd_ne (ne_of_none e nlc), upd_ne (ne_of_none e nM)]; exact e)
      (by rw [upd_same, md_mk]) (by rw [upd_ne x1, upd_ne x9.symm, upd_ne x5.symm, upd_ne x2.symm, upd_same]) (by rw [upd_ne x3, upd_ne x8.symm, upd_ne x4.symm, upd_same]) (by rw [upd_ne x6, upd_ne x7.symm, upd_same]) (by rw [upd_ne x0, upd_same]) x3 x6 x9.symm
    show Evl.tCut _ _ _ _ (upd (upd (upd (upd (upd (upd H2 M (.dK [])) lc (.lst [])) td (.dK [])) sdd (.dK [])) cl (.lst [])) M (.dK (mergeK [] (mdK ⟨lc, td, sdd, cl, fun _ => 0, fun _ => 0⟩ ds0))))
    generalize (upd (upd (upd (upd (upd (upd H2 M (.dK [])) lc (.lst [])) td (.dK [])) sdd (.dK [])) cl (.lst [])) M (.dK (mergeK [] (mdK ⟨lc, td, sdd, cl, fun _ => 0, fun _ => 0⟩ ds0)))) = H3 at L3
    have sq : ∀ {H' : Hp}, Same H H' → SqL K H' scr (ns.map V.int) := fun s => SqL.keepS hS fun o e => s _ _ e
    have gk : ∀ {H' : Hp} {q : MP} {st : DS} (k : Str) (v : V), H' M = some (.dK (mdK q st)) → valV (mdK q st) (.inr k) = some v → DGet H' M (.str k) (some v) := fun k v e z => by
      have := DGet.k (k := (Sum.inr k : Key)) e
      rwa [z] at this
    refine ⟨fun σ H4 => ∃ y4 y5 y6 y7 y8 y9 y10 y11 y12 y13 y14, σ = [some (.ref scr), some (.ref S), some (.ref D), some (.ref M), y4, y5, y6, y7, y8, y9, y10, y11, y12, y13, y14, none, none, none, none] ∧ ∃ st p q, LI CD CC H H4 S D M st p st q ∧ Gd st ∧ BI st 41, ?_, ?_⟩
    · refine ⟨_, rfl, _, rfl, S, scr, 41, ns, rfl, by decide, by decide, L3.st, sq L3.s, fun H4 v k4 t4 v0 v1 => ?_⟩
      refine ⟨v, rfl, by omega, by omega, for_range (lo := 0) (n := v.toNat) (fun i σ H4 => ∃ y4 y5 y6 y7 y8 y9 y10 y11 y12 y13 y14, σ = [some (.ref scr), some (.ref S), some (.ref D), some (.ref M), y4, y5, y6, y7, y8, y9, y10, y11, y12, y13, y14, none, none, none, none] ∧ ∃ st p q, LI CD CC H H4 S D M st p st q ∧ Gd st ∧ BI st i) ?_ ?_ ?_⟩
      · exact ⟨none, none, none, none, none, none, none, none, none, none, none, rfl, ds0, _, _, L3.draw k4 t4, gd0, bi0⟩
      · rintro i σ H4 hi ⟨y4, y5, y6, y7, y8, y9, y10, y11, y12, y13, y14, rfl, st, p, q, L4, gd, bi⟩
        have hi41 : i ≤ 41 := by omega
        have tk := gd.T
        generalize hT : srt (st.tab.map (·.1)) = T
        have Tget : ∀ n ∈ T, n ∈ NM ∧ ∃ i, tget st.tab n = some i := fun n hn => by
          rw [← hT] at hn
          obtain ⟨z1, z2⟩ := srt_mem hn
          exact ⟨z2, tget_some z1⟩
        have Tlen : T.length ≤ 4 := by rw [← hT]; exact srt_len _
        refine ⟨(by show 4 ≤ sizeLine; decide), fun L5 n5 => ?_⟩
        have o5 := L4.ot n5
        have L5' := L4.same (same_new (o := .lst [.str "a", .str "b", .str "root", .str "root.new"]) n5)
        have e5 : (upd H4 L5 (.lst [.str "a", .str "b", .str "root", .str "root.new"])) L5 = some (.lst [.str "a", .str "b", .str "root", .str "root.new"]) := upd_same
        refine ⟨_, rfl, M, _, rfl, gk _ _ L5'.m.dct md_t, q.td, _, st.tab.map (·.1), rfl, Rd.of L5'.m.tab, mp_keys _ _, (by rw [List.length_map]; have := tk.len; omega), fun ys L6 pm sr n6 => ?_⟩
        generalize (upd H4 L5 (.lst [.str "a", .str "b", .str "root", .str "root.new"])) = H5 at L5' e5 n6 ⊢
        rw [tk.srt pm sr, hT]
        have o6 := L5'.ot n6
        have L6' := L5'.same (same_new (o := .lst (T.map V.str)) n6)
        have e6 : (upd H5 L6 (.lst (T.map V.str))) L6 = some (.lst (T.map V.str)) := upd_same
        have e5 := same_new (o := .lst (T.map V.str)) n6 _ _ e5
        refine ⟨(by show 6 ≤ sizeLine; decide), fun L7 n7 => ?_⟩
        generalize (upd H5 L6 (.lst (T.map V.str))) = H6 at L6' e6 e5 n7 ⊢
        have o7 := L6'.ot n7
        have L7' := L6'.same (same_new (o := .lst [V.str "append", .str "append", .str "sync", .str "rename", .str "remove", .str "names"]) n7)
        have e7 : (upd H6 L7 (.lst [V.str "append", .str "append", .str "sync", .str "rename", .str "remove", .str "names"])) L7 = some (.lst [V.str "append", .str "append", .str "sync", .str "rename", .str "remove", .str "names"]) := upd_same
        have e6 := same_new (o := .lst [V.str "append", .str "append", .str "sync", .str "rename", .str "remove", .str "names"]) n7 _ _ e6
        have e5 := same_new (o := .lst [V.str "append", .str "append", .str "sync", .str "rename", .str "remove", .str "names"]) n7 _ _ e5
        refine ⟨_, rfl, _, rfl, S, scr, 6, ns, rfl, by decide, by decide, L7'.st, sq L7'.s, fun H8 v1 k8 t8 a0 a1 => ?_⟩
        have L8' := L7'.draw k8 t8
        have e7 := k8 _ _ e7 o7.b
        have e6 := k8 _ _ e6 o6.b
        have e5 := k8 _ _ e5 o5.b
        obtain ⟨d, hd⟩ := atW a0 a1
        refine ⟨L7, _, v1, _, rfl, rfl, .inl (.inl e7), hd, ?_⟩
        refine ⟨_, rfl, _, rfl, _, rfl, S, scr, 4, ns, rfl, by decide, by decide, L8'.st, sq L8'.s, fun H9 v2 k9 t9 b0 b1 => ?_⟩
        have L9' := L8'.draw k9 t9
        have e6 := k9 _ _ e6 o6.b
        have e5 := k9 _ _ e5 o5.b
        obtain ⟨nm, hnm, hat⟩ := atN b0 b1
        refine ⟨L5, _, v2, _, rfl, rfl, .inl (.inl e5), hat, ?_⟩
        refine ⟨fun σ H10 => ∃ y4 y9 y10 y11 y12 y13 y14, ∃ nm : Str, σ = [some (.ref scr), some (.ref S), some (.ref D), some (.ref M), y4, some (.ref L5), some (.ref L6), some (.str d.s), some (.str nm), y9, y10, y11, y12, y13, y14, none, none, none, none] ∧ LI CD CC H H10 S D M st p st q ∧
          H10 L6 = some (.lst (T.map V.str)) ∧ H10 L5 = some (.lst [.str "a", .str "b", .str "root", .str "root.new"]) ∧ nm ∈ NM ∧ (d.isA = false → T ≠ [] → ∃ i, tget st.tab nm = some i), ?_, ?_⟩
        · refine ⟨_, rfl, rfl, _, rfl, ?_⟩
          rw [wA]
          cases hA : d.isA with
          | true => exact iteF (iteF ⟨_, _, _, _, _, _, _, nm, rfl, L9', e6, e5, hnm, fun z => Bool.noConfusion z⟩)
          | false =>
            refine iteT ⟨_, rfl, L6, _, rfl, .inl (.inl (.inl e6)), _, _, rfl, rfl, _, rfl, ?_⟩
            rw [List.length_map]
            by_cases hT0 : T = []
            · refine iteBF (decide_eq_false (by rw [hT0]; decide)) ⟨_, _, _, _, _, _, _, nm, rfl, L9', e6, e5, hnm, fun _ z => absurd hT0 z⟩
            · have hTp : 0 < T.length := List.length_pos_iff.mpr hT0
              refine iteB (decide_eq_true (by omega)) ?_
              refine ⟨_, rfl, _, rfl, _, rfl, _, rfl, L6, _, rfl, .inl (.inl (.inl e6)), S, scr, _, ns, rfl, ?_, ?_, L9'.st, sq L9'.s, fun H10 v3 k10 t10 c0 c1 => ?_⟩
              · rw [List.length_map]; omega
              · rw [List.length_map]; omega
              rw [List.length_map] at c1
              obtain ⟨j, rfl⟩ : ∃ j : Nat, v3 = (j : Int) := ⟨v3.toNat, by omega⟩
              have hj : j < T.length := by omega
              have e6 := k10 _ _ e6 o6.b
              have e5 := k10 _ _ e5 o5.b
              obtain ⟨z1, z2⟩ := Tget _ (List.getElem_mem hj)
              exact ⟨L6, _, _, .str T[j], rfl, rfl, .inl (.inl e6), atI_nat (by rw [List.getElem?_map, List.getElem?_eq_getElem hj]; rfl), _, _, _, _, _, _, _, T[j], rfl, L9'.draw k10 t10, e6, e5, z1, fun _ _ => z2⟩
        rintro σ H10 ⟨y4, y9, y10, y11, y12, y13, y14, nm, rfl, L10', e6, e5, hnm, hget⟩
        refine ⟨_, rfl, _, rfl, _, rfl, S, scr, 4, ns, rfl, by decide, by decide, L10'.st, sq L10'.s, fun H11 v4 k11 t11 d0 d1 => ?_⟩
        have L11' := L10'.draw k11 t11
        have e6 := k11 _ _ e6 o6.b
        have e5 := k11 _ _ e5 o5.b
        obtain ⟨oth, hoth, hat2⟩ := atN d0 d1
        refine ⟨L5, _, v4, _, rfl, rfl, .inl (.inl e5), hat2, ?_⟩
        refine ⟨fun σ H12 => ∃ (L10 : Addr) (os : List Int), σ = [some (.ref scr), some (.ref S), some (.ref D), some (.ref M), y4, some (.ref L5), some (.ref L6), some (.str d.s), some (.str nm), some (.str oth), some (.ref L10), y11, y12, y13, y14, none, none, none, none] ∧ LI CD CC H H12 S D M st p st q ∧
          H12 L6 = some (.lst (T.map V.str)) ∧ os.length ≤ 3 ∧ H12 L10 = some (.lst (os.map V.int)) ∧ Ot H S D M st p st q L10, ?_, ?_⟩
        · refine ⟨_, rfl, _, rfl, S, scr, 4, ns, rfl, by decide, by decide, L11'.st, sq L11'.s, fun H12 v5 k12 t12 f0 f1 => ?_⟩
          have L12' := L11'.draw k12 t12
          have e6 := k12 _ _ e6 o6.b
          refine ⟨v5, rfl, by omega, by omega, fun L10 n10 => ?_⟩
          have o10 := L12'.ot n10
          have n610 : L6 ≠ L10 := ne_of_none e6 n10
          refine lc_range (lo := 0) (n := v5.toNat) (fun i H13 => LI CD CC H H13 S D M st p st q ∧ H13 L6 = some (.lst (T.map V.str)) ∧ ∃ os : List Int, os.length = i ∧ H13 L10 = some (.lst (os.map V.int))) ?_ ?_ ?_
          · exact ⟨L12'.same (same_new n10), same_new n10 _ _ e6, [], rfl, upd_same⟩
          · rintro i H13 hi ⟨L13', e6, os, hos, e10⟩
            refine ⟨rfl, ?_⟩
            dsimp only [tYes]
            rw [if_pos rfl]
            refine ⟨_, rfl, _, rfl, S, scr, 6, ns, rfl, by decide, by decide, L13'.st, sq L13'.s, fun H14 v6 k14 t14 g0 g1 => ?_⟩
            have e10 := k14 _ _ e10 o10.b
            have e6 := k14 _ _ e6 o6.b
            refine ⟨_, _, rfl, rfl, _, e10, ?_, (L13'.draw k14 t14).put o10 (fun r z => by rw [e10] at z; cases z), ?_, os ++ [250 + v6], ?_, ?_⟩
            · rw [List.length_map]
              exact small1000 (by omega)
            · rw [upd_ne n610]
              exact e6
            · rw [List.length_append, hos]; rfl
            · rw [upd_same, List.map_append]; rfl
          · rintro H13 ⟨L13', e6, os, hos, e10⟩
            exact ⟨L10, os, rfl, L13', e6, by omega, e10, o10⟩
        rintro σ H12 ⟨L10, os, rfl, L12', e6, hos, e10, o10⟩
        refine ⟨fun σ H13 => ∃ l : Option Nat, σ = [some (.ref scr), some (.ref S), some (.ref D), some (.ref M), y4, some (.ref L5), some (.ref L6), some (.str d.s), some (.str nm), some (.str oth), some (.ref L10), y11, y12, y13, y14, none, none, none, none] ∧ LI CD CC H H13 S D M { st with lim := l } p { st with lim := l } q ∧
          H13 L6 = some (.lst (T.map V.str)) ∧ H13 L10 = some (.lst (os.map V.int)), ?_, ?_⟩
        · refine ⟨_, rfl, _, rfl, S, scr, 12, ns, rfl, by decide, by decide, L12'.st, sq L12'.s, fun H13 v7 k13 t13 h0 h1 => ?_⟩
          have L13' := L12'.draw k13 t13
          have e6 := k13 _ _ e6 o6.b
          have e10 := k13 _ _ e10 o10.b
          refine ⟨rfl, _, rfl, ?_⟩
          by_cases hv7 : v7 = 0
          · refine iteB (decide_eq_true (by rw [hv7])) ⟨(by show 4 ≤ sizeLine; decide), fun L14 n14 => ?_⟩
            have o14 := L13'.ot n14
            have L14' := L13'.same (same_new (o := .lst [V.non, .int 0, .int 1, .int 3]) n14)
            have e14 : (upd H13 L14 (.lst [V.non, .int 0, .int 1, .int 3])) L14 = some (.lst [V.non, .int 0, .int 1, .int 3]) := upd_same
            have e6 := same_new (o := .lst [V.non, .int 0, .int 1, .int 3]) n14 _ _ e6
            have e10 := same_new (o := .lst [V.non, .int 0, .int 1, .int 3]) n14 _ _ e10
            refine ⟨_, rfl, _, rfl, S, scr, 4, ns, rfl, by decide, by decide, L14'.st, sq L14'.s, fun H15 v8 k15 t15 j0 j1 => ?_⟩
            have L15' := L14'.draw k15 t15
            have e14 := k15 _ _ e14 o14.b
            have e6 := k15 _ _ e6 o6.b
            have e10 := k15 _ _ e10 o10.b
            obtain ⟨l, hat3⟩ := atL j0 j1
            refine ⟨L14, _, v8, _, rfl, rfl, .inl (.inl e14), hat3, _, rfl, M, _, rfl, DPut.k (k := (Sum.inr "limit" : Key)) L15'.m.dct (by show 6 < sizeLine; decide), ?_⟩
            have L16' := L15'.limM (l := l)
            have n6M : L6 ≠ M := fun z => o6.d (.inl z)
            have n10M : L10 ≠ M := fun z => o10.d (.inl z)
            have e6 : (upd H15 M (.dK (putK (mdK q st) (.inr "limit") (limV l)))) L6 = some (.lst (T.map V.str)) := by rw [upd_ne n6M]; exact e6
            have e10 : (upd H15 M (.dK (putK (mdK q st) (.inr "limit") (limV l)))) L10 = some (.lst (os.map V.int)) := by rw [upd_ne n10M]; exact e10
            obtain ⟨dxD, hiD⟩ := L16'.d.inst'
            refine ⟨_, rfl, D, dxD, _, rfl, hiD, rfl, _, rfl, M, _, rfl, gk _ _ L16'.m.dct md_l, D, st, p, l, rfl, L16'.d, fun H17 k17 d17 => ⟨l, rfl, L16'.limD k17 d17, k17 _ _ e6 fun z => o6.c (.inl z), k17 _ _ e10 fun z => o10.c (.inl z)⟩⟩
          · exact iteBF (decide_eq_false fun z => hv7 (V.int.inj z)) ⟨st.lim, rfl, L13', e6, e10⟩
        rintro σ H13 ⟨l, rfl, L13', e6, e10⟩
        have gl := gd.lim l
        have bl := bi.lim l
        have bdd := bl.bd hi41 hos
        have lenT : ((T.map V.str).length : Int) = (T.length : Int) := by rw [List.length_map]
        cases d with
        | app =>
          obtain ⟨st', did⟩ : ∃ st', Did { st with lim := l } .app nm oth os st' := ⟨_, .app hnm⟩
          refine ⟨_, rfl, rfl, _, rfl, iteT (iteT ⟨_, rfl, rfl, _, rfl, iteF (iteT ?_)⟩)⟩
          refine ⟨_, rfl, L10, _, rfl, .inl (.inl (.inl e10)), fun L11 n11 => ?_⟩
          have o10' : Ot H S D M { st with lim := l } p { st with lim := l } q L10 := ⟨o10.a, o10.b, o10.c, o10.d⟩
          have o11 := L13'.ot n11
          have e11 : (upd H13 L11 (.lst (os.map V.int))) L11 = some (.lst (os.map V.int)) := upd_same
          have L14' := L13'.same (same_new (o := .lst (os.map V.int)) n11)
          have e10 := same_new (o := .lst (os.map V.int)) n11 _ _ e10
          generalize (upd H13 L11 (.lst (os.map V.int))) = H14 at e11 L14' e10 ⊢
          refine ⟨_, rfl, M, _, rfl, gk _ _ L14'.m.dct md_d, ?_⟩
          refine ⟨_, rfl, _, rfl, _, rfl, _, rfl, _, rfl, M, L10, _, st', q, _, nm, oth, os, rfl, L14'.m, gl, bdd, e10, o10'.d, did, fun hlim H17 q' oo gg mm => ?_, fun hlim => ?_⟩
          · have L17 := L14'.model oo gg mm
            have e11 := oo _ _ e11 o11.d
            have e10 := oo _ _ e10 o10'.d
            refine ⟨_, rfl, _, rfl, _, rfl, _, rfl, _, rfl, D, L11, _, st', p, _, nm, oth, os, rfl, L17.d, gl, bdd, e11, o11.c, did, fun hlim2 H18 p' oo2 gg2 dk gd' => ?_, fun hlim2 H18 s18 => absurd hlim2 hlim⟩
            have L18 := L17.disk oo2 gg2 dk
            have e11 := oo2 _ _ e11 o11.c
            have e10 := oo2 _ _ e10 o10'.c
            refine ⟨_, rfl, _, rfl, ne_ints e11 e10 ⟨_, rfl, iteF ⟨_, rfl, true, rfl, iteT ⟨_, rfl, rfl, _, rfl, iteF ⟨_, rfl, true, rfl, iteF (iteF ?_)⟩⟩⟩⟩⟩
            exact ⟨_, _, _, _, _, _, _, _, _, _, _, rfl, st', p', q', L18, gd', bl.did hos did⟩
          · refine ⟨_, rfl, _, rfl, _, rfl, _, rfl, _, rfl, D, L11, _, st', p, _, nm, oth, os, rfl, L14'.d, gl, bdd, e11, o11.c, did, fun hlim2 => absurd hlim hlim2, fun hlim2 H18 s18 => ?_⟩
            have L18 := L14'.same s18
            have e11 := s18 _ _ e11
            have e10 := s18 _ _ e10
            refine ⟨_, rfl, _, rfl, ne_ints e11 e10 ⟨_, rfl, iteF ⟨_, rfl, false, rfl, iteF (iteF ⟨_, rfl, false, rfl, iteT ⟨_, rfl, _, rfl, rfl, _, rfl, iteBF ?_ ?_⟩⟩)⟩⟩⟩
            · rw [decide_eq_true rfl]; rfl
            · exact ⟨_, _, _, _, _, _, _, _, _, _, _, rfl, _, p, q, L18, gl, bl.mono⟩
        | nms =>
          obtain ⟨st', did⟩ : ∃ st', Did { st with lim := l } .nms nm oth os st' := ⟨_, .nms⟩
          refine ⟨_, rfl, rfl, _, rfl, iteF ⟨_, rfl, rfl, _, rfl, iteT (iteT ⟨_, rfl, rfl, _, rfl, iteF (iteT ?_)⟩)⟩⟩
          refine ⟨_, rfl, L10, _, rfl, .inl (.inl (.inl e10)), fun L11 n11 => ?_⟩
          have o10' : Ot H S D M { st with lim := l } p { st with lim := l } q L10 := ⟨o10.a, o10.b, o10.c, o10.d⟩
          have o11 := L13'.ot n11
          have e11 : (upd H13 L11 (.lst (os.map V.int))) L11 = some (.lst (os.map V.int)) := upd_same
          have L14' := L13'.same (same_new (o := .lst (os.map V.int)) n11)
          have e10 := same_new (o := .lst (os.map V.int)) n11 _ _ e10
          generalize (upd H13 L11 (.lst (os.map V.int))) = H14 at e11 L14' e10 ⊢
          refine ⟨_, rfl, M, _, rfl, gk _ _ L14'.m.dct md_d, ?_⟩
          refine ⟨_, rfl, _, rfl, _, rfl, _, rfl, _, rfl, M, L10, _, st', q, _, nm, oth, os, rfl, L14'.m, gl, bdd, e10, o10'.d, did, fun hlim H17 q' oo gg mm => ?_, fun hlim => ?_⟩
          · have L17 := L14'.model oo gg mm
            have e11 := oo _ _ e11 o11.d
            have e10 := oo _ _ e10 o10'.d
            refine ⟨_, rfl, _, rfl, _, rfl, _, rfl, _, rfl, D, L11, _, st', p, _, nm, oth, os, rfl, L17.d, gl, bdd, e11, o11.c, did, fun hlim2 H18 p' oo2 gg2 dk gd' => ?_, fun hlim2 H18 s18 => absurd hlim2 hlim⟩
            have L18 := L17.disk oo2 gg2 dk
            have e11 := oo2 _ _ e11 o11.c
            have e10 := oo2 _ _ e10 o10'.c
            refine ⟨_, rfl, _, rfl, ne_ints e11 e10 ⟨_, rfl, iteF ⟨_, rfl, true, rfl, iteT ⟨_, rfl, rfl, _, rfl, iteF ⟨_, rfl, true, rfl, iteF (iteF ?_)⟩⟩⟩⟩⟩
            exact ⟨_, _, _, _, _, _, _, _, _, _, _, rfl, st', p', q', L18, gd', bl.did hos did⟩
          · refine ⟨_, rfl, _, rfl, _, rfl, _, rfl, _, rfl, D, L11, _, st', p, _, nm, oth, os, rfl, L14'.d, gl, bdd, e11, o11.c, did, fun hlim2 => absurd hlim hlim2, fun hlim2 H18 s18 => ?_⟩
            have L18 := L14'.same s18
            have e11 := s18 _ _ e11
            have e10 := s18 _ _ e10
            refine ⟨_, rfl, _, rfl, ne_ints e11 e10 ⟨_, rfl, iteF ⟨_, rfl, false, rfl, iteF (iteF ⟨_, rfl, false, rfl, iteT ⟨_, rfl, _, rfl, rfl, _, rfl, iteBF ?_ ?_⟩⟩)⟩⟩⟩
            · rw [decide_eq_true rfl]; rfl
            · exact ⟨_, _, _, _, _, _, _, _, _, _, _, rfl, _, p, q, L18, gl, bl.mono⟩
        | syn =>
          refine ⟨_, rfl, rfl, _, rfl, iteF ⟨_, rfl, rfl, _, rfl, iteF ⟨_, rfl, L6, _, rfl, .inl (.inl (.inl e6)), _, _, rfl, rfl, _, rfl, ?_⟩⟩⟩
          rw [lenT]
          by_cases hT0 : T = []
          · exact iteBF (decide_eq_false (by rw [hT0]; decide)) (iteF ⟨_, _, _, _, _, _, _, _, _, _, _, rfl, _, p, q, L13', gl, bl.mono⟩)
          have hTp : 0 < T.length := List.length_pos_iff.mpr hT0
          obtain ⟨j, hj⟩ := hget rfl hT0
          obtain ⟨st', did⟩ : ∃ st', Did { st with lim := l } .syn nm oth os st' := ⟨_, .syn (st := { st with lim := l }) hj (List.getElem?_eq_getElem (gd.T.ix _ (tget_mem hj)))⟩
          refine iteB (decide_eq_true (by omega)) ⟨_, rfl, rfl, _, rfl, iteF (iteT ?_)⟩
          refine ⟨_, rfl, L10, _, rfl, .inl (.inl (.inl e10)), fun L11 n11 => ?_⟩
          have o10' : Ot H S D M { st with lim := l } p { st with lim := l } q L10 := ⟨o10.a, o10.b, o10.c, o10.d⟩
          have o11 := L13'.ot n11
          have e11 : (upd H13 L11 (.lst (os.map V.int))) L11 = some (.lst (os.map V.int)) := upd_same
          have L14' := L13'.same (same_new (o := .lst (os.map V.int)) n11)
          have e10 := same_new (o := .lst (os.map V.int)) n11 _ _ e10
          generalize (upd H13 L11 (.lst (os.map V.int))) = H14 at e11 L14' e10 ⊢
          refine ⟨_, rfl, M, _, rfl, gk _ _ L14'.m.dct md_d, ?_⟩
          refine ⟨_, rfl, _, rfl, _, rfl, _, rfl, _, rfl, M, L10, _, st', q, _, nm, oth, os, rfl, L14'.m, gl, bdd, e10, o10'.d, did, fun hlim H17 q' oo gg mm => ?_, fun hlim => ?_⟩
          · have L17 := L14'.model oo gg mm
            have e11 := oo _ _ e11 o11.d
            have e10 := oo _ _ e10 o10'.d
            refine ⟨_, rfl, _, rfl, _, rfl, _, rfl, _, rfl, D, L11, _, st', p, _, nm, oth, os, rfl, L17.d, gl, bdd, e11, o11.c, did, fun hlim2 H18 p' oo2 gg2 dk gd' => ?_, fun hlim2 H18 s18 => absurd hlim2 hlim⟩
            have L18 := L17.disk oo2 gg2 dk
            have e11 := oo2 _ _ e11 o11.c
            have e10 := oo2 _ _ e10 o10'.c
            refine ⟨_, rfl, _, rfl, ne_ints e11 e10 ⟨_, rfl, iteF ⟨_, rfl, true, rfl, iteT ⟨_, rfl, rfl, _, rfl, iteF ⟨_, rfl, true, rfl, iteF (iteF ?_)⟩⟩⟩⟩⟩
            exact ⟨_, _, _, _, _, _, _, _, _, _, _, rfl, st', p', q', L18, gd', bl.did hos did⟩
          · refine ⟨_, rfl, _, rfl, _, rfl, _, rfl, _, rfl, D, L11, _, st', p, _, nm, oth, os, rfl, L14'.d, gl, bdd, e11, o11.c, did, fun hlim2 => absurd hlim hlim2, fun hlim2 H18 s18 => ?_⟩
            have L18 := L14'.same s18
            have e11 := s18 _ _ e11
            have e10 := s18 _ _ e10
            refine ⟨_, rfl, _, rfl, ne_ints e11 e10 ⟨_, rfl, iteF ⟨_, rfl, false, rfl, iteF (iteF ⟨_, rfl, false, rfl, iteT ⟨_, rfl, _, rfl, rfl, _, rfl, iteBF ?_ ?_⟩⟩)⟩⟩⟩
            · rw [decide_eq_true rfl]; rfl
            · exact ⟨_, _, _, _, _, _, _, _, _, _, _, rfl, _, p, q, L18, gl, bl.mono⟩
        | ren =>
          refine ⟨_, rfl, rfl, _, rfl, iteF ⟨_, rfl, rfl, _, rfl, iteF ⟨_, rfl, L6, _, rfl, .inl (.inl (.inl e6)), _, _, rfl, rfl, _, rfl, ?_⟩⟩⟩
          rw [lenT]
          by_cases hT0 : T = []
          · exact iteBF (decide_eq_false (by rw [hT0]; decide)) (iteF ⟨_, _, _, _, _, _, _, _, _, _, _, rfl, _, p, q, L13', gl, bl.mono⟩)
          have hTp : 0 < T.length := List.length_pos_iff.mpr hT0
          obtain ⟨j, hj⟩ := hget rfl hT0
          obtain ⟨st', did⟩ : ∃ st', Did { st with lim := l } .ren nm oth os st' := ⟨_, .ren (st := { st with lim := l }) hj hoth⟩
          refine iteB (decide_eq_true (by omega)) ⟨_, rfl, rfl, _, rfl, iteT ⟨_, rfl, _, rfl, rfl, _, rfl, ?_⟩⟩
          by_cases hon : oth = nm
          · rw [decide_eq_true (by rw [hon])]
            exact iteF ⟨_, _, _, _, _, _, _, _, _, _, _, rfl, _, p, q, L13', gl, bl.mono⟩
          rw [decide_eq_false fun z => hon (V.str.inj z)]
          refine iteT ?_
          refine ⟨_, rfl, L10, _, rfl, .inl (.inl (.inl e10)), fun L11 n11 => ?_⟩
          have o10' : Ot H S D M { st with lim := l } p { st with lim := l } q L10 := ⟨o10.a, o10.b, o10.c, o10.d⟩
          have o11 := L13'.ot n11
          have e11 : (upd H13 L11 (.lst (os.map V.int))) L11 = some (.lst (os.map V.int)) := upd_same
          have L14' := L13'.same (same_new (o := .lst (os.map V.int)) n11)
          have e10 := same_new (o := .lst (os.map V.int)) n11 _ _ e10
          generalize (upd H13 L11 (.lst (os.map V.int))) = H14 at e11 L14' e10 ⊢
          refine ⟨_, rfl, M, _, rfl, gk _ _ L14'.m.dct md_d, ?_⟩
          refine ⟨_, rfl, _, rfl, _, rfl, _, rfl, _, rfl, M, L10, _, st', q, _, nm, oth, os, rfl, L14'.m, gl, bdd, e10, o10'.d, did, fun hlim H17 q' oo gg mm => ?_, fun hlim => ?_⟩
          · have L17 := L14'.model oo gg mm
            have e11 := oo _ _ e11 o11.d
            have e10 := oo _ _ e10 o10'.d
            refine ⟨_, rfl, _, rfl, _, rfl, _, rfl, _, rfl, D, L11, _, st', p, _, nm, oth, os, rfl, L17.d, gl, bdd, e11, o11.c, did, fun hlim2 H18 p' oo2 gg2 dk gd' => ?_, fun hlim2 H18 s18 => absurd hlim2 hlim⟩
            have L18 := L17.disk oo2 gg2 dk
            have e11 := oo2 _ _ e11 o11.c
            have e10 := oo2 _ _ e10 o10'.c
            refine ⟨_, rfl, _, rfl, ne_ints e11 e10 ⟨_, rfl, iteF ⟨_, rfl, true, rfl, iteT ⟨_, rfl, rfl, _, rfl, iteF ⟨_, rfl, true, rfl, iteF (iteF ?_)⟩⟩⟩⟩⟩
            exact ⟨_, _, _, _, _, _, _, _, _, _, _, rfl, st', p', q', L18, gd', bl.did hos did⟩
          · refine ⟨_, rfl, _, rfl, _, rfl, _, rfl, _, rfl, D, L11, _, st', p, _, nm, oth, os, rfl, L14'.d, gl, bdd, e11, o11.c, did, fun hlim2 => absurd hlim hlim2, fun hlim2 H18 s18 => ?_⟩
            have L18 := L14'.same s18
            have e11 := s18 _ _ e11
            have e10 := s18 _ _ e10
            refine ⟨_, rfl, _, rfl, ne_ints e11 e10 ⟨_, rfl, iteF ⟨_, rfl, false, rfl, iteF (iteF ⟨_, rfl, false, rfl, iteT ⟨_, rfl, _, rfl, rfl, _, rfl, iteBF ?_ ?_⟩⟩)⟩⟩⟩
            · rw [decide_eq_true rfl]; rfl
            · exact ⟨_, _, _, _, _, _, _, _, _, _, _, rfl, _, p, q, L18, gl, bl.mono⟩
        | rem =>
          refine ⟨_, rfl, rfl, _, rfl, iteF ⟨_, rfl, rfl, _, rfl, iteF ⟨_, rfl, L6, _, rfl, .inl (.inl (.inl e6)), _, _, rfl, rfl, _, rfl, ?_⟩⟩⟩
          rw [lenT]
          by_cases hT0 : T = []
          · exact iteBF (decide_eq_false (by rw [hT0]; decide)) (iteF ⟨_, _, _, _, _, _, _, _, _, _, _, rfl, _, p, q, L13', gl, bl.mono⟩)
          have hTp : 0 < T.length := List.length_pos_iff.mpr hT0
          obtain ⟨j, hj⟩ := hget rfl hT0
          obtain ⟨st', did⟩ : ∃ st', Did { st with lim := l } .rem nm oth os st' := ⟨_, .rem (st := { st with lim := l }) hj⟩
          refine iteB (decide_eq_true (by omega)) ⟨_, rfl, rfl, _, rfl, iteF (iteT ?_)⟩
          refine ⟨_, rfl, L10, _, rfl, .inl (.inl (.inl e10)), fun L11 n11 => ?_⟩
          have o10' : Ot H S D M { st with lim := l } p { st with lim := l } q L10 := ⟨o10.a, o10.b, o10.c, o10.d⟩
          have o11 := L13'.ot n11
          have e11 : (upd H13 L11 (.lst (os.map V.int))) L11 = some (.lst (os.map V.int)) := upd_same
          have L14' := L13'.same (same_new (o := .lst (os.map V.int)) n11)
          have e10 := same_new (o := .lst (os.map V.int)) n11 _ _ e10
          generalize (upd H13 L11 (.lst (os.map V.int))) = H14 at e11 L14' e10 ⊢
          refine ⟨_, rfl, M, _, rfl, gk _ _ L14'.m.dct md_d, ?_⟩
          refine ⟨_, rfl, _, rfl, _, rfl, _, rfl, _, rfl, M, L10, _, st', q, _, nm, oth, os, rfl, L14'.m, gl, bdd, e10, o10'.d, did, fun hlim H17 q' oo gg mm => ?_, fun hlim => ?_⟩
          · have L17 := L14'.model oo gg mm
            have e11 := oo _ _ e11 o11.d
            have e10 := oo _ _ e10 o10'.d
            refine ⟨_, rfl, _, rfl, _, rfl, _, rfl, _, rfl, D, L11, _, st', p, _, nm, oth, os, rfl, L17.d, gl, bdd, e11, o11.c, did, fun hlim2 H18 p' oo2 gg2 dk gd' => ?_, fun hlim2 H18 s18 => absurd hlim2 hlim⟩
            have L18 := L17.disk oo2 gg2 dk
            have e11 := oo2 _ _ e11 o11.c
            have e10 := oo2 _ _ e10 o10'.c
            refine ⟨_, rfl, _, rfl, ne_ints e11 e10 ⟨_, rfl, iteF ⟨_, rfl, true, rfl, iteT ⟨_, rfl, rfl, _, rfl, iteF ⟨_, rfl, true, rfl, iteF (iteF ?_)⟩⟩⟩⟩⟩
            exact ⟨_, _, _, _, _, _, _, _, _, _, _, rfl, st', p', q', L18, gd', bl.did hos did⟩
          · refine ⟨_, rfl, _, rfl, _, rfl, _, rfl, _, rfl, D, L11, _, st', p, _, nm, oth, os, rfl, L14'.d, gl, bdd, e11, o11.c, did, fun hlim2 => absurd hlim hlim2, fun hlim2 H18 s18 => ?_⟩
            have L18 := L14'.same s18
            have e11 := s18 _ _ e11
            have e10 := s18 _ _ e10
            refine ⟨_, rfl, _, rfl, ne_ints e11 e10 ⟨_, rfl, iteF ⟨_, rfl, false, rfl, iteF (iteF ⟨_, rfl, false, rfl, iteT ⟨_, rfl, _, rfl, rfl, _, rfl, iteBF ?_ ?_⟩⟩)⟩⟩⟩
            · rw [decide_eq_true rfl]; rfl
            · exact ⟨_, _, _, _, _, _, _, _, _, _, _, rfl, _, p, q, L18, gl, bl.mono⟩
      · rintro σ H4 ⟨y4, y5, y6, y7, y8, y9, y10, y11, y12, y13, y14, rfl, st, p, q, L4, gd, bi⟩
        exact ⟨y4, y5, y6, y7, y8, y9, y10, y11, y12, y13, y14, rfl, st, p, q, L4, gd, ⟨by have := bi.n; omega, by have := bi.h; omega, fun c hc => by have := bi.o c hc; omega, bi.s⟩⟩
    · rintro σ H4 ⟨y4, y5, y6, y7, y8, y9, y10, y11, y12, y13, y14, rfl, st, p, q, L4, gd, bi⟩
      intro F nF
      have oF := L4.ot nF
      have L5 := L4.same (same_new (o := .dK []) nF)
      have eF : (upd H4 F (.dK [])) F = some (.dK []) := upd_same
      show Evl.tCut _ _ _ _ (upd H4 F (.dK []))
      generalize (upd H4 F (.dK [])) = H5 at L5 eF
      have tk := gd.T
      refine ⟨fun σ H6 => ∃ y8, σ = [some (.ref scr), some (.ref S), some (.ref D), some (.ref M), y4, y5, y6, y7, y8, y9, y10, y11, y12, y13, y14, some (.ref F), none, none, none] ∧ LI CD CC H H6 S D M st p st q ∧ FlAt (fun a => ¬ ftM M q st.cs.length a) H6 F (fls st), ?_, ?_⟩
      · have ntF : q.td ≠ F := fun z => oF.d (z ▸ .inr (.inl rfl))
        have nMF : M ≠ F := fun z => oF.d (z ▸ .inl rfl)
        have nlF : q.lc ≠ F := fun z => oF.d (z ▸ .inr (.inr (.inr (.inl rfl))))
        refine ⟨q.td, _, L5.m.tab, trivial, fun od => ?_⟩
        have nlt : q.lc ≠ q.td := ne_of L5.m.con L5.m.tab (by intro z; cases z)
        have kM : ∀ {H6 : Hp}, (∀ a o, (upd H5 q.td (.frz od (.dK (mp gi st.tab)))) a = some o → a ≠ F → H6 a = some o) → H6 M = some (.dK (mdK q st)) := fun k => k _ _ (by rw [upd_ne L5.m.n1.symm]; exact L5.m.dct) nMF
        refine ⟨_, rfl, M, _, rfl, gk _ _ (by rw [upd_ne L5.m.n1.symm]; exact L5.m.dct) md_t, q.td, od, rfl, .inl ⟨_, upd_same, for_it walk_keys (fun i σ H6 => ∃ y8, σ = [some (.ref scr), some (.ref S), some (.ref D), some (.ref M), y4, y5, y6, y7, y8, y9, y10, y11, y12, y13, y14, some (.ref F), none, none, none] ∧ (∀ a o, (upd H5 q.td (.frz od (.dK (mp gi st.tab)))) a = some o → a ≠ F → H6 a = some o) ∧ FlAt (fun a => ¬ ftM M q st.cs.length a) H6 F ((fls st).take i)) ?_ ?_ ?_ ?_⟩⟩
        · exact ⟨y8, rfl, fun a o e _ => e, [], by rw [upd_ne ntF.symm]; exact eF, rfl, fun i q h => by simp at h⟩
        · rintro i σ H6 hi ⟨y8, rfl, k6, _⟩
          exact k6 _ _ upd_same ntF
        · rintro i x σ H6 H6' hi ⟨y8, rfl, k6, f6⟩ ⟨rfl, k, v, hkv, rfl⟩
          have hi2 : i < st.tab.length := by rw [← mp_len gi st.tab]; exact hi
          have e0 : (mp gi st.tab)[i]? = some ((Sum.inr st.tab[i].1 : Key), gi st.tab[i].2) := by
            unfold mp
            rw [List.getElem?_map, List.getElem?_eq_getElem hi2]
            rfl
          rw [e0] at hkv
          obtain ⟨rfl, rfl⟩ := Prod.mk.inj (Option.some.inj hkv)
          have hj : st.tab[i].2 < st.cs.length := tk.ix _ (List.getElem_mem hi2)
          have hcj := List.getElem?_eq_getElem hj
          obtain ⟨c1, c2⟩ := L5.m.cts _ _ hcj
          have hg : DGet H6' q.td (.str st.tab[i].1) (some (gi st.tab[i].2)) := by
            refine .inl ⟨_, (Sum.inr st.tab[i].1 : Key), .inr ⟨od, k6 _ _ upd_same ntF⟩, rfl, ?_⟩
            rw [mp_get, tget_in tk.nd (List.getElem_mem hi2)]
            rfl
          have k5 : ∀ a o, H5 a = some o → a ≠ q.td → a ≠ F → H6' a = some o := fun a o e n1 n2 => k6 _ _ (by rw [upd_ne n1]; exact e) n2
          have frow : ftM M q st.cs.length (q.row st.tab[i].2) := .inr (.inr (.inr (.inr (.inr ⟨_, hj, .inl rfl⟩))))
          have fol : ftM M q st.cs.length (q.ol st.tab[i].2) := .inr (.inr (.inr (.inr (.inr ⟨_, hj, .inr rfl⟩))))
          have r6 := k5 _ _ c1 (ne_of c1 L5.m.tab (by intro z; cases z)) fun z => oF.d (z ▸ frow)
          have l6 := k5 _ _ c2 (ne_of c2 L5.m.tab (by intro z; cases z)) fun z => oF.d (z ▸ fol)
          have cxx : atI ((List.range st.cs.length).map fun i => V.ref (q.row i)) ((st.tab[i].2 : Nat) : Int) = some (.ref (q.row st.tab[i].2)) := by
            refine atI_nat ?_
            rw [List.getElem?_map, List.getElem?_range hj]
            rfl
          obtain ⟨kvs, g1, g2, g3⟩ := f6
          refine ⟨_, rfl, M, _, rfl, gk _ _ (kM k6) md_c, _, rfl, M, _, rfl, gk _ _ (kM k6) md_t, _, rfl, q.td, _, rfl, hg, q.lc, _, _, _, rfl, rfl, .inl (.inl (k5 _ _ L5.m.con nlt nlF)), cxx, q.row st.tab[i].2, _, 0, _, rfl, rfl, .inl (.inl r6), rfl, _, rfl, _, rfl, F, _, rfl, DPut.k (k := (Sum.inr st.tab[i].1 : Key)) g1 ?_, ?_⟩
          · rw [g2, List.length_take]
            exact small1000 (by have := tk.len; omega)
          · refine ⟨_, rfl, fun a o e n => by rw [upd_ne n]; exact k6 _ _ e n, ?_⟩
            have ef : (fls st).take (i + 1) = (fls st).take i ++ [(st.tab[i].1, st.cs[st.tab[i].2].o)] := by
              rw [List.take_add_one]
              congr 1
              unfold fls
              rw [List.getElem?_map, List.getElem?_eq_getElem hi2]
              show [(_, (st.cs.getD st.tab[i].2 ⟨[], 0⟩).o)] = _
              rw [List.getD_eq_getElem?_getD, hcj]
              rfl
            rw [ef]
            refine FlAt.put (a := q.ol st.tab[i].2) g2 g3 ?_ (fun a xs e _ => by rw [upd_ne (ne_of e g1 (by intro z; cases z))]; exact e) (fun z => z fol) (by rw [upd_ne (ne_of l6 g1 (by intro z; cases z))]; exact l6) upd_same
            rw [List.map_take]
            have e1 : (fls st).map (fun q : Str × List Int => q.1) = st.tab.map (·.1) := fls_nms st
            rw [e1]
            intro z
            obtain ⟨m, hm, e⟩ := List.mem_take_iff_getElem.mp z
            have h2 : (st.tab.map (·.1))[i]'(by rw [List.length_map]; exact hi2) = st.tab[i].1 := List.getElem_map _
            have := (List.getElem_inj tk.nd (h₀ := by rw [List.length_map]; omega) (h₁ := by rw [List.length_map]; exact hi2)).mp (e.trans h2.symm)
            omega
        · rintro σ H6 ⟨y8, rfl, k6, f6⟩
          have ef : (fls st).take (mp gi st.tab).length = fls st := by
            rw [mp_len]
            refine List.take_of_length_le ?_
            unfold fls
            rw [List.length_map]
            exact Nat.le_refl _
          rw [ef] at f6
          refine ⟨k6 _ _ upd_same ntF, y8, rfl, L5.exc oF (fun r z => by rw [eF] at z; cases z) (fun a x e n => ?_), f6.move (fun o e => by rw [upd_ne ntF.symm]; exact e) (fun a xs e _ => ?_)⟩
          · by_cases z : a = q.td
            · rw [z, upd_same]
              rw [z, L5.m.tab] at e
              exact e
            · rw [upd_ne z]
              exact k6 _ _ (by rw [upd_ne z]; exact e) n
          · rw [upd_ne fun z => (by rw [z, k6 _ _ upd_same ntF] at e; cases e)]
            exact e
      rintro σ H6 ⟨y8, rfl, L6, f6⟩
      have frS : ∀ {H' : Hp} {a : Addr} {xs : List V}, LI CD CC H H' S D M st p st q → H' a = some (.lst xs) → ¬ ¬ ftM M q st.cs.length a → a ≠ S := fun L _ na z => na fun f => (L.fm _ f).2.1 z
      have fdraw : ∀ {H' H'' : Hp}, LI CD CC H H' S D M st p st q → (∀ a o, H' a = some o → a ≠ S → H'' a = some o) → FlAt (fun a => ¬ ftM M q st.cs.length a) H' F (fls st) → FlAt (fun a => ¬ ftM M q st.cs.length a) H'' F (fls st) := fun L k f => f.move (fun o e => k _ _ e oF.b) fun a xs e na => k _ _ e (frS L e na)
      have fsame : ∀ {H' H'' : Hp}, Same H' H'' → FlAt (fun a => ¬ ftM M q st.cs.length a) H' F (fls st) → FlAt (fun a => ¬ ftM M q st.cs.length a) H'' F (fls st) := fun s f => f.move (fun o e => s _ _ e) fun a xs e _ => s _ _ e
      refine ⟨fun σ H7 => ∃ (C : Addr) (cs : List Int), σ = [some (.ref scr), some (.ref S), some (.ref D), some (.ref M), y4, y5, y6, y7, y8, y9, y10, y11, y12, y13, y14, some (.ref F), some (.ref C), none, none] ∧ LI CD CC H H7 S D M st p st q ∧ FlAt (fun a => ¬ ftM M q st.cs.length a) H7 F (fls st) ∧ cs.length ≤ 12 ∧ H7 C = some (.lst (cs.map V.int)) ∧ Ot H S D M st p st q C, ?_, ?_⟩
      · refine ⟨_, rfl, _, rfl, S, scr, 13, ns, rfl, by decide, by decide, L6.st, sq L6.s, fun H7 v5 k7 t7 f0 f1 => ?_⟩
        have L7 := L6.draw k7 t7
        have f7 := fdraw L6 k7 f6
        refine ⟨v5, rfl, by omega, by omega, fun C nC => ?_⟩
        have oC := L7.ot nC
        have nFC : F ≠ C := by
          obtain ⟨kvs, e, _⟩ := f7
          exact ne_of_none e nC
        refine lc_range (lo := 0) (n := v5.toNat) (fun i H8 => LI CD CC H H8 S D M st p st q ∧ FlAt (fun a => ¬ ftM M q st.cs.length a) H8 F (fls st) ∧ ∃ cs : List Int, cs.length = i ∧ H8 C = some (.lst (cs.map V.int))) ?_ ?_ ?_
        · exact ⟨L7.same (same_new nC), fsame (same_new nC) f7, [], rfl, upd_same⟩
        · rintro i H8 hi ⟨L8, f8, cs, hcs, e8⟩
          refine ⟨rfl, ?_⟩
          dsimp only [tYes]
          rw [if_pos rfl]
          refine ⟨_, rfl, _, rfl, S, scr, 30, ns, rfl, by decide, by decide, L8.st, sq L8.s, fun H9 v6 k9 t9 g0 g1 => ?_⟩
          have e9 := k9 _ _ e8 oC.b
          have f9 := fdraw L8 k9 f8
          refine ⟨_, e9, ?_, (L8.draw k9 t9).put oC (fun r z => by rw [e9] at z; cases z), f9.move (fun o e => by rw [upd_ne nFC]; exact e) (fun a xs e na => ?_), cs ++ [v6], ?_, ?_⟩
          · rw [List.length_map]
            exact small1000 (by omega)
          · have m : a ≠ C := fun z => na fun f => oC.d (z ▸ f)
            rw [upd_ne m]
            exact e
          · rw [List.length_append, hcs]; rfl
          · rw [upd_same, List.map_append]; rfl
        · rintro H8 ⟨L8, f8, cs, hcs, e8⟩
          exact ⟨C, cs, rfl, L8, f8, by omega, e8, oC⟩
      rintro σ H7 ⟨C, cs, rfl, L7, f7, hcs, eC, oC⟩
      have nFC : F ≠ C := by
        obtain ⟨kvs, e, _⟩ := f7
        exact ne_of e eC (by intro z; cases z)
      have bd1 : ∀ c ∈ st.cs, c.o.length ≤ 900 := fun c hc => by have := bi.o c hc; omega
      have bd2 : ∀ c ∈ st.cs, c.o.length ≤ 1000 := fun c hc => by have := bi.o c hc; omega
      have chl : st.chg.length ≤ 900 := by have := bi.h; omega
      have bdd := bi.bd (by omega) (os := []) (Nat.zero_le _)
      refine ⟨_, rfl, C, _, rfl, .inl (.inl (.inl eC)), fun G nG => ?_⟩
      have oG := L7.ot nG
      have L8 := L7.same (same_new (o := .lst (cs.map V.int)) nG)
      have f8 := fsame (same_new (o := .lst (cs.map V.int)) nG) f7
      have eC := same_new (o := .lst (cs.map V.int)) nG _ _ eC
      have eG : (upd H7 G (.lst (cs.map V.int))) G = some (.lst (cs.map V.int)) := upd_same
      obtain ⟨dx8, hi8⟩ := L8.d.inst'
      refine ⟨_, rfl, D, dx8, _, rfl, hi8, rfl, _, rfl, D, G, st, p, cs, rfl, L8.d, gd, bd2, chl, eG, fun H9 d2 p2 s9 hd2 fd2 => ?_⟩
      generalize (upd H7 G (.lst (cs.map V.int))) = H8 at L8 f8 eC eG hi8 s9 fd2
      have L9 := L8.same s9
      have f9 := fsame s9 f8
      have nd1 : (nms (fls st)).Nodup := by rw [fls_nms]; exact gd.T.nd
      have nm1 : ∀ q ∈ fls st, q.1 ∈ NM := fun q hq => by
        obtain ⟨p, hp, rfl⟩ := List.mem_map.mp hq
        exact gd.T.nm p hp
      have hs1 := fls_has gd bd2
      have sr1 : srt (nms (fls st)) = srt (st.tab.map (·.1)) := by rw [fls_nms]
      have lpn := lsP_nms st cs
      have nd2 : (nms (lsP st cs)).Nodup := by rw [lpn]; exact srt_nodup _
      have nm2 : ∀ q ∈ lsP st cs, q.1 ∈ NM := fun q hq => by
        have : q.1 ∈ nms (lsP st cs) := List.mem_map.mpr ⟨q, hq, rfl⟩
        rw [lpn] at this
        exact (srt_mem this).2
      have ln2 := lsP_len bd1 bdd.s cs
      have hs2 := hld_has nd2 fun q hq => Nat.le_trans (ln2 q hq) (by decide)
      have sr2 : srt (nms (lsP st cs)) = srt ((hld (lsP st cs)).tab.map (·.1)) := by rw [(hld_tab _ nd2).1]
      have g2 := hld_gd _ nm2
      have re : lsP (hld (lsP st cs)) cs = lsP st cs := relost nd2 (by rw [lpn]; exact srt_srt _) cs
      obtain ⟨hk1, hk2, hk3, hk4, hk5⟩ := hld_ok (lsP st cs)
      have hl2 : ∀ c ∈ (hld (lsP st cs)).cs, c.o.length ≤ 900 := fun c hc => by
        rw [hk5] at hc
        obtain ⟨q, hq, rfl⟩ := List.mem_map.mp hc
        exact ln2 q hq
      have hi9 := s9 _ _ hi8
      refine ⟨_, rfl, _, rfl, ne_ints (s9 _ _ eG) (s9 _ _ eC) ⟨_, rfl, iteF ⟨_, rfl, D, dx8, _, rfl, hi9, rfl, D, st, p, rfl, L9.d, _, rfl, M, _, rfl, gk _ _ L9.m.dct md_d, rfl, _, rfl, iteBF ?_ ?_⟩⟩⟩
      · rw [decide_eq_true rfl]; rfl
      refine ⟨_, rfl, _, rfl, D, F, st, p, _, fls st, _, rfl, L9.d, gd.T, f9, nd1, nm1, sr1, hs1, fun H10 s10 => ⟨true, rfl, iteF ?_⟩⟩
      have L10 := L9.same s10
      have f10 := fsame s10 f9
      have eC10 := s10 _ _ (s9 _ _ eC)
      refine ⟨_, rfl, _, rfl, M, C, st, q, cs, rfl, L10.m, gd, bdd, eC10, by omega, fun H11 F2 s11 nF2 fl2 => ?_⟩
      have L11 := L10.same s11
      have f11 := fsame s11 f10
      have eC11 := s11 _ _ eC10
      have hd11 := hd2.same (s10.trans s11)
      obtain ⟨dx2, hi2⟩ := hd11.inst'
      refine ⟨_, rfl, _, rfl, d2, F2, hld (lsP st cs), p2, _, lsP st cs, _, rfl, hd11, g2.T, fl2, nd2, nm2, sr2, hs2, fun H12 s12 => ⟨true, rfl, iteF ?_⟩⟩
      have hd12 := hd11.same s12
      have fl12 := fl2.weak s12
      refine ⟨_, rfl, d2, dx2, _, rfl, s12 _ _ hi2, rfl, d2, _, p2, rfl, hd12, rfl, _, rfl, iteBF ?_ ?_⟩
      · rw [hk4]; rfl
      refine ⟨_, rfl, d2, dx2, _, rfl, s12 _ _ hi2, rfl, _, rfl, d2, C, _, p2, cs, rfl, hd12, g2, fun c hc => Nat.le_trans (hl2 c hc) (by decide), ?_, s12 _ _ eC11, fun H13 d3 p3 s13 hd3 fd3 => ?_⟩
      · rw [hk2]; exact Nat.zero_le _
      rw [re] at hd3
      refine ⟨_, rfl, d3, F2, hld (lsP st cs), p3, _, lsP st cs, _, rfl, hd3, g2.T, fl12.weak s13, nd2, nm2, sr2, hs2, fun H14 s14 => ⟨true, rfl, iteF ?_⟩⟩
      have hd14 := hd12.same (s13.trans s14)
      have s9_14 := s10.trans (s11.trans (s12.trans (s13.trans s14)))
      have L14 := L9.same s9_14
      have f14 := fsame s9_14 f9
      have hi14 := s14 _ _ (s13 _ _ (s12 _ _ hi2))
      refine ⟨_, rfl, d2, dx2, _, rfl, hi14, rfl, (by show 1 ≤ sizeLine; decide), fun O nO => ?_⟩
      refine ⟨d2, O, hld (lsP st cs), p2, "a", [1], rfl, hd14.same (same_new nO), g2, upd_same, hd14.nfree nO, (by decide +kernel), hl2, (by decide), (by rw [hk2]; exact Nat.zero_le _), fun hlim H15 p4 o15 g15 dk15 gd15 => ?_, fun hlim => by rw [hk3] at hlim; cases hlim⟩
      have no2 : ∀ {a : Addr} {x : HO}, H8 a = some x → ¬ foot d2 p2 (hld (lsP st cs)).cs.length a := fun e f => by
        rw [fd2 _ f] at e
        cases e
      have k15 : ∀ {a : Addr} {x : HO}, H14 a = some x → ¬ foot d2 p2 (hld (lsP st cs)).cs.length a → H15 a = some x := fun e n => o15 _ _ (same_new nO _ _ e) n
      have d15 : DkAt CD CC H15 D st p := L14.d.keep fun a x e z => k15 e (by
        rcases z with f | ⟨r, rfl⟩
        · obtain ⟨u, eu, _⟩ := L8.d.occ f
          exact no2 eu
        · exact hd14.ntup e)
      have f15 : FlAt (fun a => ¬ ftM M q st.cs.length a) H15 F (fls st) := by
        obtain ⟨kvs, e, hl, f⟩ := f8
        refine ⟨kvs, k15 (s9_14 _ _ (s9 _ _ e)) (no2 e), hl, fun i q hq => ?_⟩
        obtain ⟨a, z1, z2, z3⟩ := f i q hq
        exact ⟨a, z1, k15 (s9_14 _ _ (s9 _ _ z2)) (no2 z2), z3⟩
      exact ⟨_, rfl, _, rfl, D, F, st, p, _, fls st, _, rfl, d15, gd.T, f15, nd1, nm1, sr1, hs1, fun H16 s16 => q0 _⟩
end
end K2

namespace K2
open PySem L2
theorem all_mk {l : PySem.W.OpenLaw} {w : World} {K : PySem.W.Frag} {h : Heap} {mg : Str → Option Value} {fa : Addr} (X : K.In h) (G : h.Ns mainGlobals mg) (hfa : mg "law" = some (.ref fa))
    {f1 : Addr} {od1 an1 : Option Addr} {sl1 : Array (Option Value)} {oc1 kV1 dc1 pm1 cd1 ct1 : Value}
    (a1 : PySem.W.nsIn K mainGlobals "change_names" = some (some (.ref f1))) (l1 : K.lookup f1 = some ⟨oc1, od1, .func (PySem.W.fnOf "change_names" "change_names" (defArgs sChangeNames) (defBody sChangeNames) (defScope sChangeNames) .none kV1 dc1 pm1 an1 cd1 ct1), sl1⟩) (c1 : PySem.W.codeIn K cd1 "change_names" = true) (k1 : PySem.W.keepIn K (.ref f1) = true)
    {f2 : Addr} {od2 an2 : Option Addr} {sl2 : Array (Option Value)} {oc2 kV2 dc2 pm2 cd2 ct2 : Value}
    (a2 : PySem.W.nsIn K mainGlobals "octets_left" = some (some (.ref f2))) (l2 : K.lookup f2 = some ⟨oc2, od2, .func (PySem.W.fnOf "octets_left" "octets_left" (defArgs sOctetsLeft) (defBody sOctetsLeft) (defScope sOctetsLeft) .none kV2 dc2 pm2 an2 cd2 ct2), sl2⟩) (c2 : PySem.W.codeIn K cd2 "octets_left" = true) (k2 : PySem.W.keepIn K (.ref f2) = true)
    {f3 : Addr} {od3 an3 : Option Addr} {sl3 : Array (Option Value)} {oc3 kV3 dc3 pm3 cd3 ct3 : Value}
    (a3 : PySem.W.nsIn K mainGlobals "_law_draw" = some (some (.ref f3))) (l3 : K.lookup f3 = some ⟨oc3, od3, .func (PySem.W.fnOf "_law_draw" "_law_draw" (defArgs sDraw) (defBody sDraw) (defScope sDraw) .none kV3 dc3 pm3 an3 cd3 ct3), sl3⟩) (c3 : PySem.W.codeIn K cd3 "_law_draw" = true) (k3 : PySem.W.keepIn K (.ref f3) = true)
    {f4 : Addr} {od4 an4 : Option Addr} {sl4 : Array (Option Value)} {oc4 kV4 dc4 pm4 cd4 ct4 : Value}
    (a4 : PySem.W.nsIn K mainGlobals "_law_moved" = some (some (.ref f4))) (l4 : K.lookup f4 = some ⟨oc4, od4, .func (PySem.W.fnOf "_law_moved" "_law_moved" (defArgs sLMoved) (defBody sLMoved) (defScope sLMoved) .none kV4 dc4 pm4 an4 cd4 ct4), sl4⟩) (c4 : PySem.W.codeIn K cd4 "_law_moved" = true) (k4 : PySem.W.keepIn K (.ref f4) = true)
    {f5 : Addr} {od5 an5 : Option Addr} {sl5 : Array (Option Value)} {oc5 kV5 dc5 pm5 cd5 ct5 : Value}
    (a5 : PySem.W.nsIn K mainGlobals "_law_turn" = some (some (.ref f5))) (l5 : K.lookup f5 = some ⟨oc5, od5, .func (PySem.W.fnOf "_law_turn" "_law_turn" (defArgs sLTurn) (defBody sLTurn) (defScope sLTurn) .none kV5 dc5 pm5 an5 cd5 ct5), sl5⟩) (c5 : PySem.W.codeIn K cd5 "_law_turn" = true) (k5 : PySem.W.keepIn K (.ref f5) = true)
    {f6 : Addr} {od6 an6 : Option Addr} {sl6 : Array (Option Value)} {oc6 kV6 dc6 pm6 cd6 ct6 : Value}
    (a6 : PySem.W.nsIn K mainGlobals "_law_deed" = some (some (.ref f6))) (l6 : K.lookup f6 = some ⟨oc6, od6, .func (PySem.W.fnOf "_law_deed" "_law_deed" (defArgs sLDeed) (defBody sLDeed) (defScope sLDeed) .none kV6 dc6 pm6 an6 cd6 ct6), sl6⟩) (c6 : PySem.W.codeIn K cd6 "_law_deed" = true) (k6 : PySem.W.keepIn K (.ref f6) = true)
    {f7 : Addr} {od7 an7 : Option Addr} {sl7 : Array (Option Value)} {oc7 kV7 dc7 pm7 cd7 ct7 : Value}
    (a7 : PySem.W.nsIn K mainGlobals "_law_done" = some (some (.ref f7))) (l7 : K.lookup f7 = some ⟨oc7, od7, .func (PySem.W.fnOf "_law_done" "_law_done" (defArgs sLDone) (defBody sLDone) (defScope sLDone) .none kV7 dc7 pm7 an7 cd7 ct7), sl7⟩) (c7 : PySem.W.codeIn K cd7 "_law_done" = true) (k7 : PySem.W.keepIn K (.ref f7) = true)
    {f8 : Addr} {od8 an8 : Option Addr} {sl8 : Array (Option Value)} {oc8 kV8 dc8 pm8 cd8 ct8 : Value}
    (a8 : PySem.W.nsIn K mainGlobals "_law_lost" = some (some (.ref f8))) (l8 : K.lookup f8 = some ⟨oc8, od8, .func (PySem.W.fnOf "_law_lost" "_law_lost" (defArgs sLLost) (defBody sLLost) (defScope sLLost) .none kV8 dc8 pm8 an8 cd8 ct8), sl8⟩) (c8 : PySem.W.codeIn K cd8 "_law_lost" = true) (k8 : PySem.W.keepIn K (.ref f8) = true)
    {f9 : Addr} {od9 an9 : Option Addr} {sl9 : Array (Option Value)} {oc9 kV9 dc9 pm9 cd9 ct9 : Value}
    (a9 : PySem.W.nsIn K mainGlobals "_law_same" = some (some (.ref f9))) (l9 : K.lookup f9 = some ⟨oc9, od9, .func (PySem.W.fnOf "_law_same" "_law_same" (defArgs sLSame) (defBody sLSame) (defScope sLSame) .none kV9 dc9 pm9 an9 cd9 ct9), sl9⟩) (c9 : PySem.W.codeIn K cd9 "_law_same" = true) (k9 : PySem.W.keepIn K (.ref f9) = true)
    {f10 : Addr} {od10 an10 : Option Addr} {sl10 : Array (Option Value)} {oc10 kV10 dc10 pm10 cd10 ct10 : Value}
    (a10 : PySem.W.nsIn K mainGlobals "law" = some (some (.ref f10))) (l10 : K.lookup f10 = some ⟨oc10, od10, .func (PySem.W.fnOf "law" "law" (defArgs sLaw) (defBody sLaw) (defScope sLaw) .none kV10 dc10 pm10 an10 cd10 ct10), sl10⟩) (c10 : PySem.W.codeIn K cd10 "law" = true) (k10 : PySem.W.keepIn K (.ref f10) = true)
    (z1 : PySem.W.nsIn K mainGlobals "range" = some none)
    (z2 : PySem.W.nsIn K mainGlobals "int" = some none)
    (z3 : PySem.W.nsIn K mainGlobals "len" = some none)
    (z4 : PySem.W.nsIn K mainGlobals "isinstance" = some none)
    (z5 : PySem.W.nsIn K mainGlobals "bool" = some none)
    (z6 : PySem.W.nsIn K mainGlobals "str" = some none)
    (z7 : PySem.W.nsIn K mainGlobals "min" = some none)
    (z8 : PySem.W.nsIn K mainGlobals "max" = some none)
    (z9 : PySem.W.nsIn K mainGlobals "sum" = some none)
    (z10 : PySem.W.nsIn K mainGlobals "abs" = some none)
    (z11 : PySem.W.nsIn K mainGlobals "enumerate" = some none)
    (z12 : PySem.W.nsIn K mainGlobals "tuple" = some none)
    (z13 : PySem.W.nsIn K mainGlobals "list" = some none)
    (z14 : PySem.W.nsIn K mainGlobals "sorted" = some none)
    (z15 : PySem.W.nsIn K mainGlobals "zip" = some none)
    (z16 : PySem.W.nsIn K mainGlobals "reversed" = some none)
    (z17 : PySem.W.nsIn K mainGlobals "dict" = some none)
    (z18 : PySem.W.nsIn K mainGlobals "ValueError" = some none)
    {C CM : Addr} {nm q : Str} {Nn : Addr} {bs : List Value} {sn : List Str} {sub : List Value} {ab : Bool} {col : Option Bool} {dd : Option Addr} {m0 m1 m3 m5 : Option Value} {tn : Tok} {fI : Addr} {odI anI : Option Addr} {slI : Array (Option Value)} {ocI kVI dcI pmI cdI ctI : Value} {Cc : Addr} {fCcI : Addr} {odCcI anCcI : Option Addr} {slCcI : Array (Option Value)} {ocCcI kVCcI dcCcI pmCcI cdCcI ctCcI : Value} {Ch : Addr} {fChI : Addr} {odChI anChI : Option Addr} {slChI : Array (Option Value)} {ocChI kVChI dcChI pmChI cdChI ctChI : Value} {Dk : Addr} {fDkI : Addr} {odDkI anDkI : Option Addr} {slDkI : Array (Option Value)} {ocDkI kVDkI dcDkI pmDkI cdDkI ctDkI : Value} {fNb : Addr} {odNb anNb : Option Addr} {slNb : Array (Option Value)} {ocNb kVNb dcNb pmNb cdNb ctNb : Value} {fDn : Addr} {odDn anDn : Option Addr} {slDn : Array (Option Value)} {ocDn kVDn dcDn pmDn cdDn ctDn : Value} {fDs : Addr} {odDs anDs : Option Addr} {slDs : Array (Option Value)} {ocDs kVDs dcDs pmDs cdDs ctDs : Value} {fDr : Addr} {odDr anDr : Option Addr} {slDr : Array (Option Value)} {ocDr kVDr dcDr pmDr cdDr ctDr : Value} {fDa : Addr} {odDa anDa : Option Addr} {slDa : Array (Option Value)} {ocDa kVDa dcDa pmDa cdDa ctDa : Value} {fDy : Addr} {odDy anDy : Option Addr} {slDy : Array (Option Value)} {ocDy kVDy dcDy pmDy cdDy ctDy : Value} {fDe : Addr} {odDe anDe : Option Addr} {slDe : Array (Option Value)} {ocDe kVDe dcDe pmDe cdDe ctDe : Value} {fDm : Addr} {odDm anDm : Option Addr} {slDm : Array (Option Value)} {ocDm kVDm dcDm pmDm cdDm ctDm : Value} {fDz : Addr} {odDz anDz : Option Addr} {slDz : Array (Option Value)} {ocDz kVDz dcDz pmDz cdDz ctDz : Value} {fDl : Addr} {odDl anDl : Option Addr} {slDl : Array (Option Value)} {ocDl kVDl dcDl pmDl cdDl ctDl : Value} {fDd : Addr} {odDd anDd : Option Addr} {slDd : Array (Option Value)} {ocDd kVDd dcDd pmDd cdDd ctDd : Value} {fDo : Addr} {odDo anDo : Option Addr} {slDo : Array (Option Value)} {ocDo kVDo dcDo pmDo cdDo ctDo : Value} {fDb : Addr} {odDb anDb : Option Addr} {slDb : Array (Option Value)} {ocDb kVDb dcDb pmDb cdDb ctDb : Value} {fDc : Addr} {odDc anDc : Option Addr} {slDc : Array (Option Value)} {ocDc kVDc dcDc pmDc cdDc ctDc : Value} {fDh : Addr} {odDh anDh : Option Addr} {slDh : Array (Option Value)} {ocDh kVDh dcDh pmDh cdDh ctDh : Value}
    (eC : PySem.W.nsIn K mainGlobals "PowerLost" = some (some (.ref C)))
    (eM : PySem.W.nsIn K mainGlobals "ManysidesError" = some (some (.ref CM)))
    (xL : K.lookup C = some (excClassObj nm q C Nn bs [.ref CM, .type "ValueError", .type "Exception", .type "BaseException", .type "object"] true sn sub ab col dd m0 m1 (some (.str "PowerLost" tn)) m3 m5 "ValueError.__new__"))
    (sa : PySem.W.findIn K (.ref C) "__setattr__" = some (some (.builtin "object.__setattr__")))
    (ga : PySem.W.findIn K (.ref C) "__getattribute__" = some (some (.builtin "BaseException.__getattribute__")))
    (gg : PySem.W.findIn K (.ref C) "__getattr__" = some none)
    (hs : PySem.W.subIn K (.ref C) (.type "BaseException") = some true)
    (hd : PySem.W.hasDictIn K C = true)
    (ha : PySem.W.findIn K (.ref C) "__class__" = some (some (.builtin "object.__class__")))
    (hn : PySem.W.specialIn K (.builtin "object.__class__") "__get__" = some (some (.builtin "getset_descriptor.__get__")))
    (ht : PySem.W.takesIn K (.builtin "object.__class__") = some true)
    (hm : PySem.W.mroIn K C (.type "object") = some true)
    (tyC : PySem.W.typeIn K (.ref C) = some (.type "type"))
    (kC : PySem.W.keepIn K (.ref C) = true)
    (rd : PySem.W.readsIn K C (.type "type") = true)
    (fc : PySem.W.findCls K (.ref C) (.type "type") "__name__" = some (.get (.builtin "getset_descriptor.__get__") (.builtin "type.__name__") (.ref C) (.type "type")))
    (noP : PySem.W.findIn K (.ref C) "place" = some none)
    (noN : PySem.W.findIn K (.ref C) "name" = some none)
    (iC : PySem.W.findIn K (.ref C) "__init__" = some (some (.ref fI)))
    (tI : PySem.W.typeIn K (.ref fI) = some (.type "function"))
    (sCC : PySem.W.subIn K (.ref C) (.ref C) = some true)
    (lI : K.lookup fI = some ⟨ocI, odI, .func (PySem.W.fnOf "__init__" "ManysidesError.__init__" (defArgs sInit) (defBody sInit) (defScope sInit) .none kVI dcI pmI anI cdI ctI), slI⟩)
    (cI : PySem.W.codeIn K cdI "ManysidesError.__init__" = true)
    (kI : PySem.W.keepIn K (.ref fI) = true)
    (xCce : PySem.W.nsIn K mainGlobals "Content" = some (some (.ref Cc)))
    (xCc1 : PySem.W.makesIn K Cc = true)
    (xCc2 : PySem.W.findIn K (.ref Cc) "__init__" = some (some (.ref fCcI)))
    (xCc3 : PySem.W.isFn K (.ref fCcI) = true)
    (xCc4 : PySem.W.keepIn K (.ref Cc) = true)
    (xCc5 : PySem.W.plainGet K Cc Str.empty = true)
    (xCc6 : PySem.W.hasDictIn K Cc = true)
    (xCc7 : PySem.W.plainOver K Cc = true)
    (xCc8 : PySem.W.findIn K (.ref Cc) "__setattr__" = some (some (.builtin "object.__setattr__")))
    (xCcn0 : PySem.W.findIn K (.ref Cc) "octets" = some none)
    (xCcn1 : PySem.W.findIn K (.ref Cc) "sure" = some none)
    (lCcI : K.lookup fCcI = some ⟨ocCcI, odCcI, .func (PySem.W.fnOf "__init__" "Content.__init__" (defArgs sContentInit) (defBody sContentInit) (defScope sContentInit) .none kVCcI dcCcI pmCcI anCcI cdCcI ctCcI), slCcI⟩)
    (cCcI : PySem.W.codeIn K cdCcI "Content.__init__" = true)
    (kCcI : PySem.W.keepIn K (.ref fCcI) = true)
    (xChe : PySem.W.nsIn K mainGlobals "Choices" = some (some (.ref Ch)))
    (xCh1 : PySem.W.makesIn K Ch = true)
    (xCh2 : PySem.W.findIn K (.ref Ch) "__init__" = some (some (.ref fChI)))
    (xCh3 : PySem.W.isFn K (.ref fChI) = true)
    (xCh4 : PySem.W.keepIn K (.ref Ch) = true)
    (xCh5 : PySem.W.plainGet K Ch Str.empty = true)
    (xCh6 : PySem.W.hasDictIn K Ch = true)
    (xCh7 : PySem.W.plainOver K Ch = true)
    (xCh8 : PySem.W.findIn K (.ref Ch) "__setattr__" = some (some (.builtin "object.__setattr__")))
    (xChn0 : PySem.W.findIn K (.ref Ch) "rest" = some none)
    (lChI : K.lookup fChI = some ⟨ocChI, odChI, .func (PySem.W.fnOf "__init__" "Choices.__init__" (defArgs sChoicesInit) (defBody sChoicesInit) (defScope sChoicesInit) .none kVChI dcChI pmChI anChI cdChI ctChI), slChI⟩)
    (cChI : PySem.W.codeIn K cdChI "Choices.__init__" = true)
    (kChI : PySem.W.keepIn K (.ref fChI) = true)
    (xDke : PySem.W.nsIn K mainGlobals "Disk" = some (some (.ref Dk)))
    (xDk1 : PySem.W.makesIn K Dk = true)
    (xDk2 : PySem.W.findIn K (.ref Dk) "__init__" = some (some (.ref fDkI)))
    (xDk3 : PySem.W.isFn K (.ref fDkI) = true)
    (xDk4 : PySem.W.keepIn K (.ref Dk) = true)
    (xDk5 : PySem.W.plainGet K Dk Str.empty = true)
    (xDk6 : PySem.W.hasDictIn K Dk = true)
    (xDk7 : PySem.W.plainOver K Dk = true)
    (xDk8 : PySem.W.findIn K (.ref Dk) "__setattr__" = some (some (.builtin "object.__setattr__")))
    (xDkn0 : PySem.W.findIn K (.ref Dk) "_contents" = some none)
    (xDkn1 : PySem.W.findIn K (.ref Dk) "_sure_contents" = some none)
    (xDkn2 : PySem.W.findIn K (.ref Dk) "_changes" = some none)
    (xDkn3 : PySem.W.findIn K (.ref Dk) "_allowed" = some none)
    (xDkn4 : PySem.W.findIn K (.ref Dk) "_done" = some none)
    (lDkI : K.lookup fDkI = some ⟨ocDkI, odDkI, .func (PySem.W.fnOf "__init__" "Disk.__init__" (defArgs sDiskInit) (defBody sDiskInit) (defScope sDiskInit) .none kVDkI dcDkI pmDkI anDkI cdDkI ctDkI), slDkI⟩)
    (cDkI : PySem.W.codeIn K cdDkI "Disk.__init__" = true)
    (kDkI : PySem.W.keepIn K (.ref fDkI) = true)
    (mNb : PySem.W.findIn K (.ref Ch) "next_below" = some (some (.ref fNb)))
    (hNb : PySem.W.isFn K (.ref fNb) = true)
    (lNb : K.lookup fNb = some ⟨ocNb, odNb, .func (PySem.W.fnOf "next_below" "Choices.next_below" (defArgs sChoicesNextBelow) (defBody sChoicesNextBelow) (defScope sChoicesNextBelow) .none kVNb dcNb pmNb anNb cdNb ctNb), slNb⟩)
    (cNb : PySem.W.codeIn K cdNb "Choices.next_below" = true)
    (kNb : PySem.W.keepIn K (.ref fNb) = true)
    (mDn : PySem.W.findIn K (.ref Dk) "names" = some (some (.ref fDn)))
    (hDn : PySem.W.isFn K (.ref fDn) = true)
    (lDn : K.lookup fDn = some ⟨ocDn, odDn, .func (PySem.W.fnOf "names" "Disk.names" (defArgs sDiskNames) (defBody sDiskNames) (defScope sDiskNames) .none kVDn dcDn pmDn anDn cdDn ctDn), slDn⟩)
    (cDn : PySem.W.codeIn K cdDn "Disk.names" = true)
    (kDn : PySem.W.keepIn K (.ref fDn) = true)
    (mDs : PySem.W.findIn K (.ref Dk) "size" = some (some (.ref fDs)))
    (hDs : PySem.W.isFn K (.ref fDs) = true)
    (lDs : K.lookup fDs = some ⟨ocDs, odDs, .func (PySem.W.fnOf "size" "Disk.size" (defArgs sDiskSize) (defBody sDiskSize) (defScope sDiskSize) .none kVDs dcDs pmDs anDs cdDs ctDs), slDs⟩)
    (cDs : PySem.W.codeIn K cdDs "Disk.size" = true)
    (kDs : PySem.W.keepIn K (.ref fDs) = true)
    (mDr : PySem.W.findIn K (.ref Dk) "read" = some (some (.ref fDr)))
    (hDr : PySem.W.isFn K (.ref fDr) = true)
    (lDr : K.lookup fDr = some ⟨ocDr, odDr, .func (PySem.W.fnOf "read" "Disk.read" (defArgs sDiskRead) (defBody sDiskRead) (defScope sDiskRead) .none kVDr dcDr pmDr anDr cdDr ctDr), slDr⟩)
    (cDr : PySem.W.codeIn K cdDr "Disk.read" = true)
    (kDr : PySem.W.keepIn K (.ref fDr) = true)
    (mDa : PySem.W.findIn K (.ref Dk) "append" = some (some (.ref fDa)))
    (hDa : PySem.W.isFn K (.ref fDa) = true)
    (lDa : K.lookup fDa = some ⟨ocDa, odDa, .func (PySem.W.fnOf "append" "Disk.append" (defArgs sDiskAppend) (defBody sDiskAppend) (defScope sDiskAppend) .none kVDa dcDa pmDa anDa cdDa ctDa), slDa⟩)
    (cDa : PySem.W.codeIn K cdDa "Disk.append" = true)
    (kDa : PySem.W.keepIn K (.ref fDa) = true)
    (mDy : PySem.W.findIn K (.ref Dk) "sync" = some (some (.ref fDy)))
    (hDy : PySem.W.isFn K (.ref fDy) = true)
    (lDy : K.lookup fDy = some ⟨ocDy, odDy, .func (PySem.W.fnOf "sync" "Disk.sync" (defArgs sDiskSync) (defBody sDiskSync) (defScope sDiskSync) .none kVDy dcDy pmDy anDy cdDy ctDy), slDy⟩)
    (cDy : PySem.W.codeIn K cdDy "Disk.sync" = true)
    (kDy : PySem.W.keepIn K (.ref fDy) = true)
    (mDe : PySem.W.findIn K (.ref Dk) "rename" = some (some (.ref fDe)))
    (hDe : PySem.W.isFn K (.ref fDe) = true)
    (lDe : K.lookup fDe = some ⟨ocDe, odDe, .func (PySem.W.fnOf "rename" "Disk.rename" (defArgs sDiskRename) (defBody sDiskRename) (defScope sDiskRename) .none kVDe dcDe pmDe anDe cdDe ctDe), slDe⟩)
    (cDe : PySem.W.codeIn K cdDe "Disk.rename" = true)
    (kDe : PySem.W.keepIn K (.ref fDe) = true)
    (mDm : PySem.W.findIn K (.ref Dk) "remove" = some (some (.ref fDm)))
    (hDm : PySem.W.isFn K (.ref fDm) = true)
    (lDm : K.lookup fDm = some ⟨ocDm, odDm, .func (PySem.W.fnOf "remove" "Disk.remove" (defArgs sDiskRemove) (defBody sDiskRemove) (defScope sDiskRemove) .none kVDm dcDm pmDm anDm cdDm ctDm), slDm⟩)
    (cDm : PySem.W.codeIn K cdDm "Disk.remove" = true)
    (kDm : PySem.W.keepIn K (.ref fDm) = true)
    (mDz : PySem.W.findIn K (.ref Dk) "sync_names" = some (some (.ref fDz)))
    (hDz : PySem.W.isFn K (.ref fDz) = true)
    (lDz : K.lookup fDz = some ⟨ocDz, odDz, .func (PySem.W.fnOf "sync_names" "Disk.sync_names" (defArgs sDiskSyncNames) (defBody sDiskSyncNames) (defScope sDiskSyncNames) .none kVDz dcDz pmDz anDz cdDz ctDz), slDz⟩)
    (cDz : PySem.W.codeIn K cdDz "Disk.sync_names" = true)
    (kDz : PySem.W.keepIn K (.ref fDz) = true)
    (mDl : PySem.W.findIn K (.ref Dk) "allow" = some (some (.ref fDl)))
    (hDl : PySem.W.isFn K (.ref fDl) = true)
    (lDl : K.lookup fDl = some ⟨ocDl, odDl, .func (PySem.W.fnOf "allow" "Disk.allow" (defArgs sDiskAllow) (defBody sDiskAllow) (defScope sDiskAllow) .none kVDl dcDl pmDl anDl cdDl ctDl), slDl⟩)
    (cDl : PySem.W.codeIn K cdDl "Disk.allow" = true)
    (kDl : PySem.W.keepIn K (.ref fDl) = true)
    (mDd : PySem.W.findIn K (.ref Dk) "done" = some (some (.ref fDd)))
    (hDd : PySem.W.isFn K (.ref fDd) = true)
    (lDd : K.lookup fDd = some ⟨ocDd, odDd, .func (PySem.W.fnOf "done" "Disk.done" (defArgs sDiskDone) (defBody sDiskDone) (defScope sDiskDone) .none kVDd dcDd pmDd anDd cdDd ctDd), slDd⟩)
    (cDd : PySem.W.codeIn K cdDd "Disk.done" = true)
    (kDd : PySem.W.keepIn K (.ref fDd) = true)
    (mDo : PySem.W.findIn K (.ref Dk) "lose" = some (some (.ref fDo)))
    (hDo : PySem.W.isFn K (.ref fDo) = true)
    (lDo : K.lookup fDo = some ⟨ocDo, odDo, .func (PySem.W.fnOf "lose" "Disk.lose" (defArgs sDiskLose) (defBody sDiskLose) (defScope sDiskLose) .none kVDo dcDo pmDo anDo cdDo ctDo), slDo⟩)
    (cDo : PySem.W.codeIn K cdDo "Disk.lose" = true)
    (kDo : PySem.W.keepIn K (.ref fDo) = true)
    (mDb : PySem.W.findIn K (.ref Dk) "_begin_deed" = some (some (.ref fDb)))
    (hDb : PySem.W.isFn K (.ref fDb) = true)
    (lDb : K.lookup fDb = some ⟨ocDb, odDb, .func (PySem.W.fnOf "_begin_deed" "Disk._begin_deed" (defArgs sDiskBeginDeed) (defBody sDiskBeginDeed) (defScope sDiskBeginDeed) .none kVDb dcDb pmDb anDb cdDb ctDb), slDb⟩)
    (cDb : PySem.W.codeIn K cdDb "Disk._begin_deed" = true)
    (kDb : PySem.W.keepIn K (.ref fDb) = true)
    (mDc : PySem.W.findIn K (.ref Dk) "_change" = some (some (.ref fDc)))
    (hDc : PySem.W.isFn K (.ref fDc) = true)
    (lDc : K.lookup fDc = some ⟨ocDc, odDc, .func (PySem.W.fnOf "_change" "Disk._change" (defArgs sDiskChange) (defBody sDiskChange) (defScope sDiskChange) .none kVDc dcDc pmDc anDc cdDc ctDc), slDc⟩)
    (cDc : PySem.W.codeIn K cdDc "Disk._change" = true)
    (kDc : PySem.W.keepIn K (.ref fDc) = true)
    (mDh : PySem.W.findIn K (.ref Dk) "_hold" = some (some (.ref fDh)))
    (hDh : PySem.W.isFn K (.ref fDh) = true)
    (lDh : K.lookup fDh = some ⟨ocDh, odDh, .func (PySem.W.fnOf "_hold" "Disk._hold" (defArgs sDiskHold) (defBody sDiskHold) (defScope sDiskHold) .none kVDh dcDh pmDh anDh cdDh ctDh), slDh⟩)
    (cDh : PySem.W.codeIn K cdDh "Disk._hold" = true)
    (kDh : PySem.W.keepIn K (.ref fDh) = true)
    : ∃ fd : FuncData, (∀ (s : Shared) (v : Value), BindsTo s fd ⟨[v], []⟩ [("script", v)]) ∧ ∀ base : Heap, K.In base → base.Ns mainGlobals mg → FnOk l.prog w K mg base CX0 6 fa fd ["script"] (spLaw K) := by
  have e := hfa.symm.trans (PySem.W.mg_of X G a10)
  cases e
  have F1 := fun_mk (st := sChangeNames) l1 c1 k1
  have F2 := fun_mk (st := sOctetsLeft) l2 c2 k2
  have F3 := fun_mk (st := sDraw) l3 c3 k3
  have F4 := fun_mk (st := sLMoved) l4 c4 k4
  have F5 := fun_mk (st := sLTurn) l5 c5 k5
  have F6 := fun_mk (st := sLDeed) l6 c6 k6
  have F7 := fun_mk (st := sLDone) l7 c7 k7
  have F8 := fun_mk (st := sLLost) l8 c8 k8
  have F9 := fun_mk (st := sLSame) l9 c9 k9
  have F10 := fun_mk (st := sLaw) l10 c10 k10
  have b1 := F1.binds (ps := ["contents", "change"]) fun _ _ _ _ _ _ us hl => match us, hl with | [_, _], _ => rfl
  have b2 := F2.binds (ps := ["content", "choices"]) fun _ _ _ _ _ _ us hl => match us, hl with | [_, _], _ => rfl
  have b3 := F3.binds (ps := ["state", "script", "size"]) fun _ _ _ _ _ _ us hl => match us, hl with | [_, _, _], _ => rfl
  have b4 := F4.binds (ps := ["table", "change"]) fun _ _ _ _ _ _ us hl => match us, hl with | [_, _], _ => rfl
  have b5 := F5.binds (ps := ["model", "change"]) fun _ _ _ _ _ _ us hl => match us, hl with | [_, _], _ => rfl
  have b6 := F6.binds (ps := ["model", "word", "name", "other", "octets"]) fun _ _ _ _ _ _ us hl => match us, hl with | [_, _, _, _, _], _ => rfl
  have b7 := F7.binds (ps := ["disk", "word", "name", "other", "octets"]) fun _ _ _ _ _ _ us hl => match us, hl with | [_, _, _, _, _], _ => rfl
  have b8 := F8.binds (ps := ["model", "choices"]) fun _ _ _ _ _ _ us hl => match us, hl with | [_, _], _ => rfl
  have b9 := F9.binds (ps := ["disk", "files"]) fun _ _ _ _ _ _ us hl => match us, hl with | [_, _], _ => rfl
  have M : Nm mg := ⟨PySem.W.mg_none_of X G z1, PySem.W.mg_none_of X G z2, PySem.W.mg_none_of X G z3, PySem.W.mg_none_of X G z4, PySem.W.mg_none_of X G z5, PySem.W.mg_none_of X G z6, PySem.W.mg_none_of X G z7, PySem.W.mg_none_of X G z8, PySem.W.mg_none_of X G z9, PySem.W.mg_none_of X G z10, PySem.W.mg_none_of X G z11, PySem.W.mg_none_of X G z12, PySem.W.mg_none_of X G z13, PySem.W.mg_none_of X G z14, PySem.W.mg_none_of X G z15, PySem.W.mg_none_of X G z16, PySem.W.mg_none_of X G z17, PySem.W.mg_none_of X G z18⟩
  have FI := fun_mk (st := sInit) lI cI kI
  have bI := FI.binds (ps := ["self", "place"]) fun _ _ _ _ _ _ us hl => match us, hl with | [_, _], _ => rfl
  have FCcI := fun_mk (st := sContentInit) lCcI cCcI kCcI
  have bCcI := FCcI.binds (ps := ["self", "octets"]) fun _ _ _ _ _ _ us hl => match us, hl with | [_, _], _ => rfl
  have FChI := fun_mk (st := sChoicesInit) lChI cChI kChI
  have bChI := FChI.binds (ps := ["self", "choices"]) fun _ _ _ _ _ _ us hl => match us, hl with | [_, _], _ => rfl
  have FDkI := fun_mk (st := sDiskInit) lDkI cDkI kDkI
  have bDkI := FDkI.binds (ps := ["self"]) fun _ _ _ _ _ _ us hl => match us, hl with | [_], _ => rfl
  have FNb := fun_mk (st := sChoicesNextBelow) lNb cNb kNb
  have bNb := FNb.binds (ps := ["self", "bound"]) fun _ _ _ _ _ _ us hl => match us, hl with | [_, _], _ => rfl
  have MNb : Meth K Ch "next_below" fNb := ⟨mNb, hNb, kNb⟩
  have FDn := fun_mk (st := sDiskNames) lDn cDn kDn
  have bDn := FDn.binds (ps := ["self"]) fun _ _ _ _ _ _ us hl => match us, hl with | [_], _ => rfl
  have MDn : Meth K Dk "names" fDn := ⟨mDn, hDn, kDn⟩
  have FDs := fun_mk (st := sDiskSize) lDs cDs kDs
  have bDs := FDs.binds (ps := ["self", "name"]) fun _ _ _ _ _ _ us hl => match us, hl with | [_, _], _ => rfl
  have MDs : Meth K Dk "size" fDs := ⟨mDs, hDs, kDs⟩
  have FDr := fun_mk (st := sDiskRead) lDr cDr kDr
  have bDr := FDr.binds (ps := ["self", "name", "start", "count"]) fun _ _ _ _ _ _ us hl => match us, hl with | [_, _, _, _], _ => rfl
  have MDr : Meth K Dk "read" fDr := ⟨mDr, hDr, kDr⟩
  have FDa := fun_mk (st := sDiskAppend) lDa cDa kDa
  have bDa := FDa.binds (ps := ["self", "name", "octets"]) fun _ _ _ _ _ _ us hl => match us, hl with | [_, _, _], _ => rfl
  have MDa : Meth K Dk "append" fDa := ⟨mDa, hDa, kDa⟩
  have FDy := fun_mk (st := sDiskSync) lDy cDy kDy
  have bDy := FDy.binds (ps := ["self", "name"]) fun _ _ _ _ _ _ us hl => match us, hl with | [_, _], _ => rfl
  have MDy : Meth K Dk "sync" fDy := ⟨mDy, hDy, kDy⟩
  have FDe := fun_mk (st := sDiskRename) lDe cDe kDe
  have bDe := FDe.binds (ps := ["self", "old", "new"]) fun _ _ _ _ _ _ us hl => match us, hl with | [_, _, _], _ => rfl
  have MDe : Meth K Dk "rename" fDe := ⟨mDe, hDe, kDe⟩
  have FDm := fun_mk (st := sDiskRemove) lDm cDm kDm
  have bDm := FDm.binds (ps := ["self", "name"]) fun _ _ _ _ _ _ us hl => match us, hl with | [_, _], _ => rfl
  have MDm : Meth K Dk "remove" fDm := ⟨mDm, hDm, kDm⟩
  have FDz := fun_mk (st := sDiskSyncNames) lDz cDz kDz
  have bDz := FDz.binds (ps := ["self"]) fun _ _ _ _ _ _ us hl => match us, hl with | [_], _ => rfl
  have MDz : Meth K Dk "sync_names" fDz := ⟨mDz, hDz, kDz⟩
  have FDl := fun_mk (st := sDiskAllow) lDl cDl kDl
  have bDl := FDl.binds (ps := ["self", "count"]) fun _ _ _ _ _ _ us hl => match us, hl with | [_, _], _ => rfl
  have MDl : Meth K Dk "allow" fDl := ⟨mDl, hDl, kDl⟩
  have FDd := fun_mk (st := sDiskDone) lDd cDd kDd
  have bDd := FDd.binds (ps := ["self"]) fun _ _ _ _ _ _ us hl => match us, hl with | [_], _ => rfl
  have MDd : Meth K Dk "done" fDd := ⟨mDd, hDd, kDd⟩
  have FDo := fun_mk (st := sDiskLose) lDo cDo kDo
  have bDo := FDo.binds (ps := ["self", "choices"]) fun _ _ _ _ _ _ us hl => match us, hl with | [_, _], _ => rfl
  have MDo : Meth K Dk "lose" fDo := ⟨mDo, hDo, kDo⟩
  have FDb := fun_mk (st := sDiskBeginDeed) lDb cDb kDb
  have bDb := FDb.binds (ps := ["self"]) fun _ _ _ _ _ _ us hl => match us, hl with | [_], _ => rfl
  have MDb : Meth K Dk "_begin_deed" fDb := ⟨mDb, hDb, kDb⟩
  have FDc := fun_mk (st := sDiskChange) lDc cDc kDc
  have bDc := FDc.binds (ps := ["self", "old", "new", "content"]) fun _ _ _ _ _ _ us hl => match us, hl with | [_, _, _, _], _ => rfl
  have MDc : Meth K Dk "_change" fDc := ⟨mDc, hDc, kDc⟩
  have FDh := fun_mk (st := sDiskHold) lDh cDh kDh
  have bDh := FDh.binds (ps := ["self", "name", "octets"]) fun _ _ _ _ _ _ us hl => match us, hl with | [_, _, _], _ => rfl
  have MDh : Meth K Dk "_hold" fDh := ⟨mDh, hDh, kDh⟩
  have TCc : KC K Cc fCcI CCf := ⟨⟨xCc1, xCc2, xCc3, xCc4⟩, ⟨xCc5, xCc6, xCc7, xCc8⟩, show ∀ f ∈ (["octets", "sure"] : List Str), NoAttr K Cc f from List.forall_mem_cons.mpr ⟨xCcn0, List.forall_mem_cons.mpr ⟨xCcn1, fun _ h => absurd h List.not_mem_nil⟩⟩⟩
  have TCh : KC K Ch fChI CHf := ⟨⟨xCh1, xCh2, xCh3, xCh4⟩, ⟨xCh5, xCh6, xCh7, xCh8⟩, show ∀ f ∈ (["rest"] : List Str), NoAttr K Ch f from List.forall_mem_cons.mpr ⟨xChn0, fun _ h => absurd h List.not_mem_nil⟩⟩
  have TDk : KC K Dk fDkI CDf := ⟨⟨xDk1, xDk2, xDk3, xDk4⟩, ⟨xDk5, xDk6, xDk7, xDk8⟩, show ∀ f ∈ (["_contents", "_sure_contents", "_changes", "_allowed", "_done"] : List Str), NoAttr K Dk f from List.forall_mem_cons.mpr ⟨xDkn0, List.forall_mem_cons.mpr ⟨xDkn1, List.forall_mem_cons.mpr ⟨xDkn2, List.forall_mem_cons.mpr ⟨xDkn3, List.forall_mem_cons.mpr ⟨xDkn4, fun _ h => absurd h List.not_mem_nil⟩⟩⟩⟩⟩⟩
  have ER : ErrC K C fI "PowerLost" := ⟨⟨⟨_, _, _, _, _, _, _, _, _, _, _, _, _, _, _, xL, rfl⟩, sa, hs, tyC, kC⟩, ⟨ga, gg, hs, hd, ha, hn, ht, hm⟩, ⟨rd, fc, tyC, _, _, xL, rfl⟩, ⟨ga, gg, hs, hd⟩, noP, noN, iC, tI⟩
  have gE := PySem.W.mg_of X G eC
  have gCc := PySem.W.mg_of X G xCce
  have gCh := PySem.W.mg_of X G xChe
  have gDk := PySem.W.mg_of X G xDke
  have EX := PySem.W.exm_ref hs hd tyC sCC
  exact ⟨PySem.W.fnOf "law" "law" (defArgs sLaw) (defBody sLaw) (defScope sLaw) .none kV10 dc10 pm10 an10 cd10 ct10, fun s v => .of_eq rfl, fun base _ _ => ok_law (CD := Dk) (CC := Cc) (CE := C) F10 M ⟨_, _, _, _, _, _, _, _, _, _, _, _, _, _, _, _, _, _, _, _, ok_draw F3 M, b3, k3, (PySem.W.mg_of X G a3), ok_deed F6 M F5 b5 (PySem.W.mg_of X G a5) F4 b4 (PySem.W.mg_of X G a4), b6, k6, (PySem.W.mg_of X G a6), ok_done2 (fI := fI) F7 M ⟨_, _, _, _, _, _, _, _, _, _, (ok_append FDa M TDk TCc FCcI bCcI gCc (ok_begin FDb TDk FI bI ER gE) bDb MDb (ok_change FDc TDk F1 b1 (PySem.W.mg_of X G a1)) bDc MDc), bDa, MDa, (ok_sync FDy M TDk TCc (ok_begin FDb TDk FI bI ER gE) bDb MDb), bDy, MDy, (ok_rename FDe TDk (ok_begin FDb TDk FI bI ER gE) bDb MDb (ok_change FDc TDk F1 b1 (PySem.W.mg_of X G a1)) bDc MDc), bDe, MDe, (ok_remove FDm TDk (ok_begin FDb TDk FI bI ER gE) bDb MDb (ok_change FDc TDk F1 b1 (PySem.W.mg_of X G a1)) bDc MDc), bDm, MDm, (ok_syncN FDz TDk (ok_begin FDb TDk FI bI ER gE) bDb MDb), bDz, MDz, TDk.cl, gE, EX, ER⟩, b7, k7, (PySem.W.mg_of X G a7), ok_same F9 M ⟨_, _, _, _, _, _, ok_names FDn M TDk, bDn, MDn, ok_size FDs M TDk TCc, bDs, MDs, ok_read FDr TDk TCc, bDr, MDr, TDk.cl⟩, b9, k9, (PySem.W.mg_of X G a9), ok_lost F8 M F4 b4 (PySem.W.mg_of X G a4), b8, k8, (PySem.W.mg_of X G a8), (ok_dInit FDkI TDk), bDkI, TDk.mkC, gDk, TDk.cl, ok_allow FDl TDk, bDl, MDl, (ok_lose FDo M TDk ⟨_, _, _, _, _, _, _, _, _, _, _, _, ok_hInit FChI M TCh, bChI, ok_nb FNb TCh, bNb, MNb, ok_cn F1, b1, k1, (PySem.W.mg_of X G a1), ok_ol F2 M TCc TCh FNb bNb MNb, b2, k2, (PySem.W.mg_of X G a2), (ok_dInit FDkI TDk), bDkI, (ok_hold FDh M TDk TCc FCcI bCcI gCc), bDh, MDh, gCh, gDk, TCh.mkC, TDk.mkC, TCh.cl⟩), bDo, MDo, ok_done FDd TDk, bDd, MDd, (ok_append FDa M TDk TCc FCcI bCcI gCc (ok_begin FDb TDk FI bI ER gE) bDb MDb (ok_change FDc TDk F1 b1 (PySem.W.mg_of X G a1)) bDc MDc), bDa, MDa⟩⟩
end K2
open PySem PySem.W PyProof.Rows
set_option maxRecDepth 100000 in
set_option maxHeartbeats 0 in
theorem PySem.Challenge.cw_manysides_k57_disks_holds : PySem.Challenge.rw_manysides_k57_disks.Holds := by
  w_on; o_law; k_head; (case hw => w_witness2)
  k_fill
  refine L2.walk_of (l := PySem.Challenge.rw_manysides_k57_disks) (n := 63) (k := 6) (x := "script") (CX := fun _ => L2.CX0) (sp := fun w => K2.spLaw _) rfl (by decide) rfl ⟨rfl, by decide, by decide⟩ (fun w h Y => PySem.W.kIn_of Y) ?F (fun _ _ a ns hl _ hS => ⟨a, ns, rfl, hS, hl, fun _ => rfl⟩) (fun _ _ _ _ _ h => h)
  case F =>
    intro w mg fa h KX G hmg
    refine' K2.all_mk KX G hmg ?a1 ?l1 ?c1 ?k1 ?a2 ?l2 ?c2 ?k2 ?a3 ?l3 ?c3 ?k3 ?a4 ?l4 ?c4 ?k4 ?a5 ?l5 ?c5 ?k5 ?a6 ?l6 ?c6 ?k6 ?a7 ?l7 ?c7 ?k7 ?a8 ?l8 ?c8 ?k8 ?a9 ?l9 ?c9 ?k9 ?a10 ?l10 ?c10 ?k10 ?z1 ?z2 ?z3 ?z4 ?z5 ?z6 ?z7 ?z8 ?z9 ?z10 ?z11 ?z12 ?z13 ?z14 ?z15 ?z16 ?z17 ?z18 ?eC ?eM ?xL ?sa ?ga ?gg ?hs ?hd ?ha ?hn ?ht ?hm ?tyC ?kC ?rd ?fc ?noP ?noN ?iC ?tI ?sCC ?lI ?cI ?kI ?xCce ?xCc1 ?xCc2 ?xCc3 ?xCc4 ?xCc5 ?xCc6 ?xCc7 ?xCc8 ?xCcn0 ?xCcn1 ?lCcI ?cCcI ?kCcI ?xChe ?xCh1 ?xCh2 ?xCh3 ?xCh4 ?xCh5 ?xCh6 ?xCh7 ?xCh8 ?xChn0 ?lChI ?cChI ?kChI ?xDke ?xDk1 ?xDk2 ?xDk3 ?xDk4 ?xDk5 ?xDk6 ?xDk7 ?xDk8 ?xDkn0 ?xDkn1 ?xDkn2 ?xDkn3 ?xDkn4 ?lDkI ?cDkI ?kDkI ?mNb ?hNb ?lNb ?cNb ?kNb ?mDn ?hDn ?lDn ?cDn ?kDn ?mDs ?hDs ?lDs ?cDs ?kDs ?mDr ?hDr ?lDr ?cDr ?kDr ?mDa ?hDa ?lDa ?cDa ?kDa ?mDy ?hDy ?lDy ?cDy ?kDy ?mDe ?hDe ?lDe ?cDe ?kDe ?mDm ?hDm ?lDm ?cDm ?kDm ?mDz ?hDz ?lDz ?cDz ?kDz ?mDl ?hDl ?lDl ?cDl ?kDl ?mDd ?hDd ?lDd ?cDd ?kDd ?mDo ?hDo ?lDo ?cDo ?kDo ?mDb ?hDb ?lDb ?cDb ?kDb ?mDc ?hDc ?lDc ?cDc ?kDc ?mDh ?hDh ?lDh ?cDh ?kDh
    (case a1 => k_is)
    (case l1 => k_is)
    (case c1 => k_is)
    (case k1 => k_is)
    (case a2 => k_is)
    (case l2 => k_is)
    (case c2 => k_is)
    (case k2 => k_is)
    (case a3 => k_is)
    (case l3 => k_is)
    (case c3 => k_is)
    (case k3 => k_is)
    (case a4 => k_is)
    (case l4 => k_is)
    (case c4 => k_is)
    (case k4 => k_is)
    (case a5 => k_is)
    (case l5 => k_is)
    (case c5 => k_is)
    (case k5 => k_is)
    (case a6 => k_is)
    (case l6 => k_is)
    (case c6 => k_is)
    (case k6 => k_is)
    (case a7 => k_is)
    (case l7 => k_is)
    (case c7 => k_is)
    (case k7 => k_is)
    (case a8 => k_is)
    (case l8 => k_is)
    (case c8 => k_is)
    (case k8 => k_is)
    (case a9 => k_is)
    (case l9 => k_is)
    (case c9 => k_is)
    (case k9 => k_is)
    (case a10 => k_is)
    (case l10 => k_is)
    (case c10 => k_is)
    (case k10 => k_is)
    (case z1 => k_is)
    (case z2 => k_is)
    (case z3 => k_is)
    (case z4 => k_is)
    (case z5 => k_is)
    (case z6 => k_is)
    (case z7 => k_is)
    (case z8 => k_is)
    (case z9 => k_is)
    (case z10 => k_is)
    (case z11 => k_is)
    (case z12 => k_is)
    (case z13 => k_is)
    (case z14 => k_is)
    (case z15 => k_is)
    (case z16 => k_is)
    (case z17 => k_is)
    (case z18 => k_is)
    (case eC => first | k_is | kit_is | rfl)
    (case eM => first | k_is | kit_is | rfl)
    (case xL => first | k_is | kit_is | rfl)
    (case sa => first | k_is | kit_is | rfl)
    (case ga => first | k_is | kit_is | rfl)
    (case gg => first | k_is | kit_is | rfl)
    (case hs => first | k_is | kit_is | rfl)
    (case hd => first | k_is | kit_is | rfl)
    (case ha => first | k_is | kit_is | rfl)
    (case hn => first | k_is | kit_is | rfl)
    (case ht => first | k_is | kit_is | rfl)
    (case hm => first | k_is | kit_is | rfl)
    (case tyC => first | k_is | kit_is | rfl)
    (case kC => first | k_is | kit_is | rfl)
    (case rd => first | k_is | kit_is | rfl)
    (case fc => first | k_is | kit_is | rfl)
    (case noP => first | k_is | kit_is | rfl)
    (case noN => first | k_is | kit_is | rfl)
    (case iC => first | k_is | kit_is | rfl)
    (case tI => first | k_is | kit_is | rfl)
    (case sCC => first | k_is | kit_is | rfl)
    (case lI => first | k_is | kit_is | rfl)
    (case cI => first | k_is | kit_is | rfl)
    (case kI => first | k_is | kit_is | rfl)
    (case xCce => first | k_is | kit_is | rfl)
    (case xCc1 => first | k_is | kit_is | rfl)
    (case xCc2 => first | k_is | kit_is | rfl)
    (case xCc3 => first | k_is | kit_is | rfl)
    (case xCc4 => first | k_is | kit_is | rfl)
    (case xCc5 => first | k_is | kit_is | rfl)
    (case xCc6 => first | k_is | kit_is | rfl)
    (case xCc7 => first | k_is | kit_is | rfl)
    (case xCc8 => first | k_is | kit_is | rfl)
    (case xCcn0 => first | k_is | kit_is | rfl)
    (case xCcn1 => first | k_is | kit_is | rfl)
    (case lCcI => first | k_is | kit_is | rfl)
    (case cCcI => first | k_is | kit_is | rfl)
    (case kCcI => first | k_is | kit_is | rfl)
    (case xChe => first | k_is | kit_is | rfl)
    (case xCh1 => first | k_is | kit_is | rfl)
    (case xCh2 => first | k_is | kit_is | rfl)
    (case xCh3 => first | k_is | kit_is | rfl)
    (case xCh4 => first | k_is | kit_is | rfl)
    (case xCh5 => first | k_is | kit_is | rfl)
    (case xCh6 => first | k_is | kit_is | rfl)
    (case xCh7 => first | k_is | kit_is | rfl)
    (case xCh8 => first | k_is | kit_is | rfl)
    (case xChn0 => first | k_is | kit_is | rfl)
    (case lChI => first | k_is | kit_is | rfl)
    (case cChI => first | k_is | kit_is | rfl)
    (case kChI => first | k_is | kit_is | rfl)
    (case xDke => first | k_is | kit_is | rfl)
    (case xDk1 => first | k_is | kit_is | rfl)
    (case xDk2 => first | k_is | kit_is | rfl)
    (case xDk3 => first | k_is | kit_is | rfl)
    (case xDk4 => first | k_is | kit_is | rfl)
    (case xDk5 => first | k_is | kit_is | rfl)
    (case xDk6 => first | k_is | kit_is | rfl)
    (case xDk7 => first | k_is | kit_is | rfl)
    (case xDk8 => first | k_is | kit_is | rfl)
    (case xDkn0 => first | k_is | kit_is | rfl)
    (case xDkn1 => first | k_is | kit_is | rfl)
    (case xDkn2 => first | k_is | kit_is | rfl)
    (case xDkn3 => first | k_is | kit_is | rfl)
    (case xDkn4 => first | k_is | kit_is | rfl)
    (case lDkI => first | k_is | kit_is | rfl)
    (case cDkI => first | k_is | kit_is | rfl)
    (case kDkI => first | k_is | kit_is | rfl)
    (case mNb => first | k_is | kit_is | rfl)
    (case hNb => first | k_is | kit_is | rfl)
    (case lNb => first | k_is | kit_is | rfl)
    (case cNb => first | k_is | kit_is | rfl)
    (case kNb => first | k_is | kit_is | rfl)
    (case mDn => first | k_is | kit_is | rfl)
    (case hDn => first | k_is | kit_is | rfl)
    (case lDn => first | k_is | kit_is | rfl)
    (case cDn => first | k_is | kit_is | rfl)
    (case kDn => first | k_is | kit_is | rfl)
    (case mDs => first | k_is | kit_is | rfl)
    (case hDs => first | k_is | kit_is | rfl)
    (case lDs => first | k_is | kit_is | rfl)
    (case cDs => first | k_is | kit_is | rfl)
    (case kDs => first | k_is | kit_is | rfl)
    (case mDr => first | k_is | kit_is | rfl)
    (case hDr => first | k_is | kit_is | rfl)
    (case lDr => first | k_is | kit_is | rfl)
    (case cDr => first | k_is | kit_is | rfl)
    (case kDr => first | k_is | kit_is | rfl)
    (case mDa => first | k_is | kit_is | rfl)
    (case hDa => first | k_is | kit_is | rfl)
    (case lDa => first | k_is | kit_is | rfl)
    (case cDa => first | k_is | kit_is | rfl)
    (case kDa => first | k_is | kit_is | rfl)
    (case mDy => first | k_is | kit_is | rfl)
    (case hDy => first | k_is | kit_is | rfl)
    (case lDy => first | k_is | kit_is | rfl)
    (case cDy => first | k_is | kit_is | rfl)
    (case kDy => first | k_is | kit_is | rfl)
    (case mDe => first | k_is | kit_is | rfl)
    (case hDe => first | k_is | kit_is | rfl)
    (case lDe => first | k_is | kit_is | rfl)
    (case cDe => first | k_is | kit_is | rfl)
    (case kDe => first | k_is | kit_is | rfl)
    (case mDm => first | k_is | kit_is | rfl)
    (case hDm => first | k_is | kit_is | rfl)
    (case lDm => first | k_is | kit_is | rfl)
    (case cDm => first | k_is | kit_is | rfl)
    (case kDm => first | k_is | kit_is | rfl)
    (case mDz => first | k_is | kit_is | rfl)
    (case hDz => first | k_is | kit_is | rfl)
    (case lDz => first | k_is | kit_is | rfl)
    (case cDz => first | k_is | kit_is | rfl)
    (case kDz => first | k_is | kit_is | rfl)
    (case mDl => first | k_is | kit_is | rfl)
    (case hDl => first | k_is | kit_is | rfl)
    (case lDl => first | k_is | kit_is | rfl)
    (case cDl => first | k_is | kit_is | rfl)
    (case kDl => first | k_is | kit_is | rfl)
    (case mDd => first | k_is | kit_is | rfl)
    (case hDd => first | k_is | kit_is | rfl)
    (case lDd => first | k_is | kit_is | rfl)
    (case cDd => first | k_is | kit_is | rfl)
    (case kDd => first | k_is | kit_is | rfl)
    (case mDo => first | k_is | kit_is | rfl)
    (case hDo => first | k_is | kit_is | rfl)
    (case lDo => first | k_is | kit_is | rfl)
    (case cDo => first | k_is | kit_is | rfl)
    (case kDo => first | k_is | kit_is | rfl)
    (case mDb => first | k_is | kit_is | rfl)
    (case hDb => first | k_is | kit_is | rfl)
    (case lDb => first | k_is | kit_is | rfl)
    (case cDb => first | k_is | kit_is | rfl)
    (case kDb => first | k_is | kit_is | rfl)
    (case mDc => first | k_is | kit_is | rfl)
    (case hDc => first | k_is | kit_is | rfl)
    (case lDc => first | k_is | kit_is | rfl)
    (case cDc => first | k_is | kit_is | rfl)
    (case kDc => first | k_is | kit_is | rfl)
    (case mDh => first | k_is | kit_is | rfl)
    (case hDh => first | k_is | kit_is | rfl)
    (case lDh => first | k_is | kit_is | rfl)
    (case cDh => first | k_is | kit_is | rfl)
    (case kDh => first | k_is | kit_is | rfl)
