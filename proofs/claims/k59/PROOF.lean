import PyProof.Rows.All
import Wide.All
import OpenK.AllK
import Wide.FinOn
import HandS.Base
import HandS.Call
import HandS.Conv
import HandS.DictComp
import HandS.DictEq
import HandS.Ends
import HandS.Evl
import HandS.Exc
import HandS.ExcField
import HandS.ExcInit
import HandS.ExcIs
import HandS.ExcOwn
import HandS.FStr
import HandS.ForExc
import HandS.ForMost
import HandS.Head0
import HandS.Head1
import HandS.Head2
import HandS.HeadEnd
import HandS.HeadHook1
import HandS.HeadHook2
import HandS.IsInst
import HandS.Iter
import HandS.List
import HandS.More
import HandS.OwnEq
import HandS.Replace
import HandS.Rev
import HandS.SlotsOwn
import HandS.SortKw
import HandS.Star
import HandS.Steps
import HandS.StrMore
import HandS.Strs
import HandS.Style
import HandS.Text
import HandS.TupAny
import HandS.TupLe
import HandS.Walk
import HandS.WideBits
import HandS.WordsExc
import KE.DataMinMax
import KE.GoesEnum
import KE.GoesMore
import KE.GoesZip
import KE.KDictList
import KE.KEqNest
import KE.KExcIs
import KE.KStateDown
import KE.KTypeName
import KE.SortData
import PySem.Challenge.RW_manysides_k59_versions_of_a_store
set_option Elab.async false
set_option linter.all false
set_option maxRecDepth 100000
set_option maxHeartbeats 4000000
namespace K2
open PySem L2
def top (i : Nat) : Stmt := PySem.Challenge.pw_manysides_k59_versions_of_a_store.main.body.getD i (.Pass ⟨0, 0, 0, 0⟩)
abbrev sWall : Stmt := top 0
abbrev sInit : Stmt := inClass (top 2) 0
abbrev sEncodeText : Stmt := top 15
abbrev sDecodeText : Stmt := top 16
abbrev sIsCode : Stmt := top 17
abbrev sCharacterOf : Stmt := top 18
abbrev sOctetReaderInit : Stmt := inClass (top 21) 0
abbrev sOctetReaderIsAtEnd : Stmt := inClass (top 21) 1
abbrev sOctetReaderNextOctets : Stmt := inClass (top 21) 2
abbrev sOctetReaderNextOctetOf : Stmt := inClass (top 21) 3
abbrev sOctetReaderNextNumber : Stmt := inClass (top 21) 4
abbrev sOctetReaderNextNumberIn : Stmt := inClass (top 21) 5
abbrev sOctetReaderNextSigned : Stmt := inClass (top 21) 6
abbrev sOctetReaderNextFour : Stmt := inClass (top 21) 7
abbrev sOctetReaderNextFourIn : Stmt := inClass (top 21) 8
abbrev sOctetReaderNextBits : Stmt := inClass (top 21) 9
abbrev sShInit : Stmt := inClass (top 30) 0
abbrev sShEq : Stmt := inClass (top 30) 1
abbrev sCheckShape : Stmt := top 31
abbrev sIsDim : Stmt := top 32
abbrev sIsAttr : Stmt := top 33
abbrev sIsSimpleName : Stmt := top 34
abbrev sRootInit : Stmt := inClass (top 40) 0
abbrev sRootEq : Stmt := inClass (top 40) 1
abbrev sSumOf : Stmt := top 41
abbrev sWriteFour : Stmt := top 42
abbrev sWriteName : Stmt := top 43
abbrev sEncodeRoot : Stmt := top 44
abbrev sWriteShape : Stmt := top 45
abbrev sWriteChunks : Stmt := top 46
abbrev sDecodeRoot : Stmt := top 47
abbrev sReadArrays : Stmt := top 48
abbrev sReadName : Stmt := top 49
abbrev sReadShape : Stmt := top 50
abbrev sReadDim : Stmt := top 51
abbrev sReadAttr : Stmt := top 52
abbrev sReadChunks : Stmt := top 53
abbrev sDataFile : Stmt := top 59
abbrev sRootOn : Stmt := top 60
abbrev sRecordsByVersion : Stmt := top 61
abbrev sStoreInit : Stmt := inClass (top 62) 0
abbrev sStoreVersions : Stmt := inClass (top 62) 1
abbrev sStoreLatest : Stmt := inClass (top 62) 2
abbrev sStoreArrays : Stmt := inClass (top 62) 3
abbrev sStoreShape : Stmt := inClass (top 62) 4
abbrev sStoreChunks : Stmt := inClass (top 62) 5
abbrev sStoreChunk : Stmt := inClass (top 62) 6
abbrev sStorePut : Stmt := inClass (top 62) 7
abbrev sStoreRoot : Stmt := inClass (top 62) 8
abbrev sStoreWriteRoot : Stmt := inClass (top 62) 9
abbrev sStoreDataName : Stmt := inClass (top 62) 10
abbrev sStoreDataSize : Stmt := inClass (top 62) 11
abbrev sStoreStandingOctets : Stmt := inClass (top 62) 12
abbrev sStoreSoundOctets : Stmt := inClass (top 62) 13
abbrev sStoreTakeRoot : Stmt := inClass (top 62) 14
abbrev sStoreArraysOf : Stmt := inClass (top 62) 15
abbrev sStoreRecordAgain : Stmt := inClass (top 62) 16
abbrev sStoreAppendRecord : Stmt := inClass (top 62) 17
abbrev sContentInit : Stmt := inClass (top 64) 0
abbrev sChoicesInit : Stmt := inClass (top 65) 0
abbrev sChoicesNextBelow : Stmt := inClass (top 65) 1
abbrev sDiskInit : Stmt := inClass (top 66) 0
abbrev sDiskNames : Stmt := inClass (top 66) 1
abbrev sDiskSize : Stmt := inClass (top 66) 2
abbrev sDiskRead : Stmt := inClass (top 66) 3
abbrev sDiskAppend : Stmt := inClass (top 66) 4
abbrev sDiskSync : Stmt := inClass (top 66) 5
abbrev sDiskRename : Stmt := inClass (top 66) 6
abbrev sDiskRemove : Stmt := inClass (top 66) 7
abbrev sDiskSyncNames : Stmt := inClass (top 66) 8
abbrev sDiskAllow : Stmt := inClass (top 66) 9
abbrev sDiskDone : Stmt := inClass (top 66) 10
abbrev sDiskLose : Stmt := inClass (top 66) 11
abbrev sDiskBeginDeed : Stmt := inClass (top 66) 12
abbrev sDiskChange : Stmt := inClass (top 66) 13
abbrev sDiskHold : Stmt := inClass (top 66) 14
abbrev sChangeNames : Stmt := top 67
abbrev sOctetsLeft : Stmt := top 68
abbrev sDraw : Stmt := top 70
abbrev sShape : Stmt := top 71
abbrev sLChunks : Stmt := top 72
abbrev sLArrays : Stmt := top 73
abbrev sLSame : Stmt := top 74
abbrev sLRefused : Stmt := top 75
abbrev sLaw : Stmt := top 76
end K2

namespace K2
open PySem L2
/-! ### heaps -/
theorem same_new {H : Hp} {p : Addr} {o : HO} (h : H p = none) : Same H (upd H p o) := fun b x e => by
  rw [upd_ne (ne_of_none e h)]
  exact e
theorem same_put {H H1 : Hp} {p : Addr} {o : HO} (s : Same H H1) (h : H p = none) : Same H (upd H1 p o) := fun b x e => by
  rw [upd_ne (ne_of_none e h)]
  exact s b x e
theorem iteB {b : Bool} {A B : Prop} (e : b = true) (h : A) : if b = true then A else B := by
  rw [if_pos e]
  exact h
theorem iteBF {b : Bool} {A B : Prop} (e : b = false) (h : B) : if b = true then A else B := by
  subst e
  exact iteF h
theorem str_eq (a b : Str) : decide (V.str a = V.str b) = decide (a = b) := by
  by_cases e : a = b
  · subst e
    rw [decide_eq_true rfl, decide_eq_true rfl]
  · rw [decide_eq_false e, decide_eq_false fun h => e (V.str.inj h)]
/-- all that is outside of F stays -/
def Out (F : Addr → Prop) (H H1 : Hp) : Prop := ∀ c o, H c = some o → ¬ F c → H1 c = some o
theorem Out.refl {F : Addr → Prop} {H : Hp} : Out F H H := fun _ _ h _ => h
theorem Same.out {F : Addr → Prop} {H H1 : Hp} (s : Same H H1) : Out F H H1 := fun c o h _ => s c o h
/-- F1 has but what F has, and what was free -/
def Gw (F F1 : Addr → Prop) (H : Hp) : Prop := ∀ c, F1 c → F c ∨ H c = none
theorem Gw.refl {F : Addr → Prop} {H : Hp} : Gw F F H := fun _ h => .inl h
theorem Out.trans {F F1 : Addr → Prop} {H H1 H2 : Hp} (a : Out F H H1) (g : Gw F F1 H) (b : Out F1 H1 H2) : Out F H H2 := fun c o h n => by
  refine b c o (a c o h n) fun z => ?_
  rcases g c z with y | y
  · exact n y
  · rw [y] at h
    cases h
theorem Gw.trans {F F1 F2 : Addr → Prop} {H H1 : Hp} (g : Gw F F1 H) (a : Out F H H1) (k : Gw F1 F2 H1) : Gw F F2 H := fun c h => by
  rcases k c h with y | y
  · exact g c y
  · cases e : H c with
    | none => exact .inr rfl
    | some o =>
      refine .inl ?_
      apply Classical.byContradiction
      intro n
      rw [a c o e n] at y
      cases y
theorem Out.upd {F : Addr → Prop} {H H1 : Hp} {p : Addr} {o : HO} (a : Out F H H1) (h : F p ∨ H p = none) : Out F H (upd H1 p o) := fun c x e n => by
  rw [upd_ne]
  · exact a c x e n
  · intro z
    rcases h with h | h
    · exact n (z ▸ h)
    · rw [z, h] at e
      cases e
theorem Out.free {F : Addr → Prop} {H H1 : Hp} (a : Out F H H1) (hF : ∀ c, F c → H1 c ≠ none) {p : Addr} (h : H1 p = none) : H p = none := by
  cases e : H p with
  | none => rfl
  | some o =>
    have n : ¬ F p := fun z => hF p z h
    rw [a p o e n] at h
    cases h
/-! ### rows of tuples -/
def Rows (H : Hp) (xs : List V) (rs : List (List V)) : Prop := xs.length = rs.length ∧ ∀ (i : Nat) (r : List V), rs[i]? = some r → ∃ a, xs[i]? = some (V.ref a) ∧ H a = some (.tup r)
theorem Rows.keep {H H1 : Hp} {xs : List V} {rs : List (List V)} (h : Rows H xs rs) (e : ∀ a r, H a = some (.tup r) → H1 a = some (.tup r)) : Rows H1 xs rs := ⟨h.1, fun i r hr => let ⟨a, h1, h2⟩ := h.2 i r hr; ⟨a, h1, e _ _ h2⟩⟩
theorem Rows.nil {H : Hp} : Rows H [] [] := ⟨rfl, fun i r h => by simp at h⟩
theorem Rows.push {H : Hp} {xs : List V} {rs : List (List V)} {a : Addr} {r : List V} (h : Rows H xs rs) (e : H a = some (.tup r)) : Rows H (xs ++ [V.ref a]) (rs ++ [r]) := by
  refine ⟨by rw [List.length_append, List.length_append, h.1]; rfl, fun i q hq => ?_⟩
  rcases Nat.lt_trichotomy i rs.length with hi | hi | hi
  · rw [List.getElem?_append_left hi] at hq
    obtain ⟨b, h1, h2⟩ := h.2 i q hq
    exact ⟨b, by rw [List.getElem?_append_left (by rw [h.1]; exact hi)]; exact h1, h2⟩
  · subst hi
    rw [List.getElem?_append_right (Nat.le_refl _), Nat.sub_self] at hq
    have : r = q := Option.some.inj hq
    subst this
    exact ⟨a, by rw [List.getElem?_append_right (Nat.le_of_eq h.1), h.1, Nat.sub_self]; rfl, e⟩
  · rw [List.getElem?_eq_none (by rw [List.length_append, List.length_singleton]; omega)] at hq
    cases hq
theorem Rows.take {H : Hp} {xs : List V} {rs : List (List V)} (h : Rows H xs rs) (n : Nat) : Rows H (xs.take n) (rs.take n) := by
  refine ⟨by rw [List.length_take, List.length_take, h.1], fun i r hr => ?_⟩
  by_cases hi : i < n
  · rw [List.getElem?_take_of_lt hi] at hr ⊢
    exact h.2 i r hr
  · rw [List.getElem?_eq_none (by rw [List.length_take]; omega)] at hr
    cases hr
/-! ### tables: names and numbers, in order -/
abbrev Tb := List (Str × Nat)
def tput (t : Tb) (n : Str) (i : Nat) : Tb := if (t.any fun p => decide (p.1 = n)) = true then t.map (fun p => if p.1 = n then (p.1, i) else p) else t ++ [(n, i)]
def tget (t : Tb) (n : Str) : Option Nat := (t.find? fun p => decide (p.1 = n)).map (·.2)
def tdrop (t : Tb) (n : Str) : Tb := t.filter fun p => decide (p.1 ≠ n)
def mp (g : Nat → V) (t : Tb) : List (Key × V) := t.map fun p => ((Sum.inr p.1 : Key), g p.2)
theorem inr_eq {a b : Str} : ((Sum.inr a : Key) = Sum.inr b) ↔ a = b := ⟨fun h => Sum.inr.inj h, fun h => by rw [h]⟩
theorem dinr (a b : Str) : decide ((Sum.inr a : Key) = Sum.inr b) = decide (a = b) := decide_eq_decide.mpr inr_eq
theorem mp_get (g : Nat → V) (t : Tb) (n : Str) : valV (mp g t) (Sum.inr n) = (tget t n).map g := by
  unfold valV mp tget
  rw [List.find?_map]
  show Option.map _ (Option.map _ (t.find? fun p => decide ((Sum.inr p.1 : Key) = Sum.inr n))) = _
  rw [show (fun p : Str × Nat => decide ((Sum.inr p.1 : Key) = Sum.inr n)) = fun p => decide (p.1 = n) from funext fun p => dinr _ _]
  cases t.find? (fun p => decide (p.1 = n)) <;> rfl
theorem mp_put (g : Nat → V) (t : Tb) (n : Str) (i : Nat) : putK (mp g t) (Sum.inr n) (g i) = mp g (tput t n i) := by
  have e : ((mp g t).any fun kv => decide (kv.1 = (Sum.inr n : Key))) = t.any fun p => decide (p.1 = n) := by
    unfold mp
    rw [List.any_map]
    exact congrArg (fun f => t.any f) (funext fun p => dinr _ _)
  unfold putK tput
  rw [e]
  by_cases c : (t.any fun p => decide (p.1 = n)) = true
  · rw [if_pos c, if_pos c]
    unfold mp
    rw [List.map_map, List.map_map]
    refine List.map_congr_left fun p _ => ?_
    show (if (Sum.inr p.1 : Key) = Sum.inr n then _ else _) = _
    by_cases h : p.1 = n
    · rw [if_pos (inr_eq.mpr h)]
      show _ = ((Sum.inr (if p.1 = n then (p.1, i) else p).1 : Key), g (if p.1 = n then (p.1, i) else p).2)
      rw [if_pos h]
    · rw [if_neg fun z => h (inr_eq.mp z)]
      show _ = ((Sum.inr (if p.1 = n then (p.1, i) else p).1 : Key), g (if p.1 = n then (p.1, i) else p).2)
      rw [if_neg h]
  · rw [if_neg c, if_neg c]
    unfold mp
    rw [List.map_append]
    rfl
theorem mp_drop (g : Nat → V) (t : Tb) (n : Str) : dropK (mp g t) (Sum.inr n) = mp g (tdrop t n) := by
  unfold dropK mp tdrop
  rw [List.filter_map]
  congr 1
  refine List.filter_congr fun p _ => ?_
  exact decide_eq_decide.mpr (not_congr inr_eq)
theorem mp_len (g : Nat → V) (t : Tb) : (mp g t).length = t.length := List.length_map _
theorem tput_len (t : Tb) (n : Str) (i : Nat) : (tput t n i).length ≤ t.length + 1 := by
  unfold tput
  split
  · rw [List.length_map]; omega
  · rw [List.length_append]; exact Nat.le_refl _
inductive Cg where
  | make (n : Str) (i : Nat)
  | ren (a b : Str) (i : Nat)
  | rem (a : Str)
def mv (t : Tb) : Cg → Tb
  | .make n i => tput t n i
  | .ren a b i => tput (tdrop t a) b i
  | .rem a => tdrop t a
def okC (t : Tb) : Cg → Prop
  | .make _ _ => True
  | .ren a _ i => tget t a = some i
  | .rem a => ∃ i, tget t a = some i
def run (t : Tb) (cs : List Cg) : Tb := cs.foldl mv t
theorem run_snoc (t : Tb) (cs : List Cg) (c : Cg) : run t (cs ++ [c]) = mv (run t cs) c := by
  unfold run
  rw [List.foldl_append]
  rfl
end K2

namespace K2
open PySem L2
/-- data.N -/
def dN (i : Int) : Str := Str.empty ++ ("data." : Str) ++ (toString i : String)
def NM : List Str := "root" :: "root.new" :: (List.range 60).map fun (i : Nat) => dN (i : Int)
theorem nodup_le : ∀ {l m : List Str}, l.Nodup → (∀ x ∈ l, x ∈ m) → l.length ≤ m.length
  | [], _, _, _ => Nat.zero_le _
  | a :: r, m, h, s => by
    rw [List.nodup_cons] at h
    have ha := s a (List.mem_cons_self ..)
    have := nodup_le (m := m.erase a) h.2 fun x hx => by
      refine (List.mem_erase_of_ne fun z => h.1 ?_).mpr (s x (List.mem_cons_of_mem _ hx))
      rw [← z]
      exact hx
    rw [List.length_erase_of_mem ha] at this
    have hp : 0 < m.length := List.length_pos_of_mem ha
    rw [List.length_cons]
    omega
structure TbOk (n : Nat) (t : Tb) : Prop where
  nd : (t.map (·.1)).Nodup
  nm : ∀ p ∈ t, p.1 ∈ NM
  ix : ∀ p ∈ t, p.2 < n
theorem TbOk.nil (n : Nat) : TbOk n [] := ⟨List.nodup_nil, fun p h => absurd h List.not_mem_nil, fun p h => absurd h List.not_mem_nil⟩
theorem TbOk.mono {n m : Nat} {t : Tb} (h : TbOk n t) (l : n ≤ m) : TbOk m t := ⟨h.nd, h.nm, fun p q => Nat.lt_of_lt_of_le (h.ix p q) l⟩
theorem TbOk.len {n : Nat} {t : Tb} (h : TbOk n t) : t.length ≤ 62 := by
  have := nodup_le (m := NM) h.nd fun x hx => by
    obtain ⟨p, hp, rfl⟩ := List.mem_map.mp hx
    exact h.nm p hp
  rw [List.length_map] at this
  exact this
theorem tput_keys (t : Tb) (a : Str) (i : Nat) : (tput t a i).map (·.1) = if a ∈ t.map (·.1) then t.map (·.1) else t.map (·.1) ++ [a] := by
  have e : (t.any fun p => decide (p.1 = a)) = decide (a ∈ t.map (·.1)) := by
    rw [Bool.eq_iff_iff, List.any_eq_true, decide_eq_true_eq, List.mem_map]
    exact ⟨fun ⟨p, h, g⟩ => ⟨p, h, of_decide_eq_true g⟩, fun ⟨p, h, g⟩ => ⟨p, h, decide_eq_true g⟩⟩
  unfold tput
  rw [e]
  by_cases c : a ∈ t.map (·.1)
  · rw [if_pos (decide_eq_true c), if_pos c, List.map_map]
    refine List.map_congr_left fun p _ => ?_
    show (if p.1 = a then (p.1, i) else p).1 = p.1
    split <;> rfl
  · rw [if_neg (by rw [decide_eq_false c]; decide), if_neg c, List.map_append]
    rfl
theorem TbOk.put {n : Nat} {t : Tb} {a : Str} {i : Nat} (h : TbOk n t) (ha : a ∈ NM) (hi : i < n) : TbOk n (tput t a i) := by
  refine ⟨?_, ?_, ?_⟩
  · rw [tput_keys]
    by_cases c : a ∈ t.map (·.1)
    · rw [if_pos c]; exact h.nd
    · rw [if_neg c, List.nodup_append]
      refine ⟨h.nd, by simp, fun x hx y hy z => ?_⟩
      rw [List.mem_singleton.mp hy] at z
      exact c (z ▸ hx)
  · intro p hp
    have : p.1 ∈ (tput t a i).map (·.1) := List.mem_map.mpr ⟨p, hp, rfl⟩
    rw [tput_keys] at this
    have old : p.1 ∈ t.map (·.1) → p.1 ∈ NM := fun z => by
      obtain ⟨q, hq, e⟩ := List.mem_map.mp z
      rw [← e]
      exact h.nm q hq
    by_cases c : a ∈ t.map (·.1)
    · rw [if_pos c] at this; exact old this
    · rw [if_neg c] at this
      rcases List.mem_append.mp this with z | z
      · exact old z
      · rw [List.mem_singleton.mp z]; exact ha
  · intro p hp
    unfold tput at hp
    split at hp
    · obtain ⟨q, hq, rfl⟩ := List.mem_map.mp hp
      split
      · exact hi
      · exact h.ix q hq
    · rcases List.mem_append.mp hp with z | z
      · exact h.ix p z
      · rw [List.mem_singleton.mp z]; exact hi
theorem TbOk.drop {n : Nat} {t : Tb} {a : Str} (h : TbOk n t) : TbOk n (tdrop t a) := by
  refine ⟨List.Nodup.sublist (List.Sublist.map _ List.filter_sublist) h.nd, fun p hp => h.nm p (List.mem_filter.mp hp).1, fun p hp => h.ix p (List.mem_filter.mp hp).1⟩
def CgOk (n : Nat) : Cg → Prop
  | .make a i => a ∈ NM ∧ i < n
  | .ren _ b i => b ∈ NM ∧ i < n
  | .rem _ => True
theorem CgOk.mono {n m : Nat} {c : Cg} (h : CgOk n c) (l : n ≤ m) : CgOk m c := by
  cases c with
  | make a i => exact ⟨h.1, Nat.lt_of_lt_of_le h.2 l⟩
  | ren a b i => exact ⟨h.1, Nat.lt_of_lt_of_le h.2 l⟩
  | rem a => trivial
theorem TbOk.mv {n : Nat} {t : Tb} {c : Cg} (h : TbOk n t) (g : CgOk n c) : TbOk n (K2.mv t c) := by
  cases c with
  | make a i => exact h.put g.1 g.2
  | ren a b i => exact h.drop.put g.1 g.2
  | rem a => exact h.drop
theorem TbOk.run {n : Nat} : ∀ {cs : List Cg} {t : Tb}, TbOk n t → (∀ c ∈ cs, CgOk n c) → TbOk n (K2.run t cs)
  | [], _, h, _ => h
  | c :: r, t, h, g => TbOk.run (cs := r) (h.mv (g c (List.mem_cons_self ..))) fun x hx => g x (List.mem_cons_of_mem _ hx)
theorem tget_mem {t : Tb} {a : Str} {i : Nat} (h : tget t a = some i) : (a, i) ∈ t := by
  unfold tget at h
  cases e : t.find? (fun p => decide (p.1 = a)) with
  | none => rw [e] at h; cases h
  | some p =>
    rw [e] at h
    have h1 := List.mem_of_find?_eq_some e
    have h2 : p.1 = a := of_decide_eq_true (List.find?_some (p := fun p : Str × Nat => decide (p.1 = a)) e)
    have h3 : p.2 = i := Option.some.inj h
    rw [← h2, ← h3]
    exact h1
theorem tget_none {t : Tb} {a : Str} (h : tget t a = none) : a ∉ t.map (·.1) := by
  intro m
  obtain ⟨p, hp, e⟩ := List.mem_map.mp m
  unfold tget at h
  rw [Option.map_eq_none_iff, List.find?_eq_none] at h
  exact h p hp (decide_eq_true e)
theorem tget_some {t : Tb} {a : Str} (h : a ∈ t.map (·.1)) : ∃ i, tget t a = some i := by
  cases e : tget t a with
  | some i => exact ⟨i, rfl⟩
  | none => exact absurd h (tget_none e)
theorem tget_in : ∀ {t : Tb} {p : Str × Nat}, (t.map (·.1)).Nodup → p ∈ t → tget t p.1 = some p.2
  | q :: r, p, h, m => by
    rw [List.map_cons, List.nodup_cons] at h
    unfold tget
    rcases List.mem_cons.mp m with e | m
    · subst e
      rw [List.find?_cons_of_pos (p := fun x : Str × Nat => decide (x.1 = p.1)) (decide_eq_true rfl)]
      rfl
    · have ne : ¬ decide (q.1 = p.1) = true := fun z => h.1 (by rw [of_decide_eq_true z]; exact List.mem_map.mpr ⟨p, m, rfl⟩)
      rw [List.find?_cons_of_neg (p := fun x : Str × Nat => decide (x.1 = p.1)) ne]
      exact tget_in h.2 m
/-! ### the names in order -/
def leS (a b : Str) : Bool := !PySem.Spec.ltCps b.cps.toList a.cps.toList
theorem str_ext {a b : Str} (h : a.cps.toList = b.cps.toList) : a = b := by
  cases a with | mk x => cases b with | mk y =>
  congr 1
  exact Array.ext' h
theorem leS_iff {a b : Str} : leS a b = true ↔ ¬ b.cps.toList < a.cps.toList := by
  unfold leS
  rw [PyProof.Rows.ltCps_eq, Bool.not_eq_true', decide_eq_false_iff_not]
theorem leS_trans {a b c : Str} (h : leS a b = true) (g : leS b c = true) : leS a c = true := by
  rw [leS_iff] at *
  exact List.le_trans (List.not_lt.mp h) (List.not_lt.mp g) |> List.not_lt.mpr
theorem leS_total (a b : Str) : (leS a b || leS b a) = true := by
  rw [Bool.or_eq_true, leS_iff, leS_iff]
  rcases List.le_total a.cps.toList b.cps.toList with h | h
  · exact .inl (List.not_lt.mpr h)
  · exact .inr (List.not_lt.mpr h)
theorem leS_anti {a b : Str} (h : leS a b = true) (g : leS b a = true) : a = b := by
  rw [leS_iff] at *
  exact str_ext (List.le_antisymm (List.not_lt.mp h) (List.not_lt.mp g))
theorem rising_pw : ∀ (p : Str) (l : List Str), PyProof.Rows.risingS p l = true → (p :: l).Pairwise fun a b => leS a b = true
  | p, [], _ => List.pairwise_singleton _ _
  | p, x :: r, h => by
    have h : (!PySem.Spec.ltCps x.cps.toList p.cps.toList && PyProof.Rows.risingS x r) = true := h
    rw [Bool.and_eq_true] at h
    have ih := rising_pw x r h.2
    refine List.pairwise_cons.mpr ⟨fun y hy => ?_, ih⟩
    rcases List.mem_cons.mp hy with rfl | hy
    · exact h.1
    · exact leS_trans (b := x) h.1 ((List.pairwise_cons.mp ih).1 y hy)
theorem sorted_pw {l : List Str} (h : PyProof.Rows.sortedS l = true) : l.Pairwise fun a b => leS a b = true := by
  cases l with
  | nil => exact List.Pairwise.nil
  | cons a r => exact rising_pw a r h
theorem pw_perm {l m : List Str} (h : l.Pairwise fun a b => leS a b = true) (g : m.Pairwise fun a b => leS a b = true) (p : l.Perm m) : l = m := by
  induction l generalizing m with
  | nil => exact (List.nil_perm.mp p).symm
  | cons a r ih =>
    cases m with
    | nil => exact absurd p.symm (by simp)
    | cons b t =>
      have hp := List.pairwise_cons.mp h
      have gp := List.pairwise_cons.mp g
      have e : a = b := by
        have ha : a ∈ b :: t := p.mem_iff.mp List.mem_cons_self
        have hb : b ∈ a :: r := p.mem_iff.mpr List.mem_cons_self
        rcases List.mem_cons.mp ha with z | z
        · exact z
        rcases List.mem_cons.mp hb with y | y
        · exact y.symm
        exact leS_anti (hp.1 b y) (gp.1 a z)
      subst e
      rw [ih hp.2 gp.2 ((List.perm_cons a).mp p)]
def srt (l : List Str) : List Str := l.mergeSort leS
theorem srt_perm (l : List Str) : (srt l).Perm l := List.mergeSort_perm l leS
theorem srt_eq {l ys : List Str} (p : ys.Perm l) (s : PyProof.Rows.sortedS ys = true) : ys = srt l :=
  pw_perm (sorted_pw s) (List.pairwise_mergeSort (le := leS) (fun _ _ _ => leS_trans) leS_total l) (p.trans (srt_perm l).symm)
theorem TbOk.srt {n : Nat} {t : Tb} (_ : TbOk n t) {ys : List Str} (p : ys.Perm (t.map (·.1))) (s : PyProof.Rows.sortedS ys = true) : ys = K2.srt (t.map (·.1)) := srt_eq p s
theorem srt_mem {l : List Str} {x : Str} (h : x ∈ srt l) : x ∈ l := (srt_perm l).mem_iff.mp h
theorem srt_nodup {l : List Str} (h : l.Nodup) : (srt l).Nodup := (srt_perm l).nodup_iff.mpr h
theorem srt_len (l : List Str) : (srt l).length = l.length := (srt_perm l).length_eq
theorem mp_keys (g : Nat → V) (t : Tb) : (mp g t).map (·.1) = (t.map (·.1)).map Sum.inr := by
  unfold mp
  rw [List.map_map, List.map_map]
  rfl
end K2

namespace K2R
open PySem PySem.Spec PySem.Calls PyProof.Rows PySem.W RT
section
variable {prog : Program} {w : World} {A : Around} {E : Value → Shared → Prop} {s : Shared}
/-- list.__init__ of a new list and a reversed list's iterator -/
theorem lr_init {N j ls : Addr} {its : Array Value} {R : Result → Shared → Prop} (hh : A.handled = none) (hj : s.heap.IsRevIter j ls ((its.size : Int) - 1)) (hls : s.heap.IsList ls its) (n1 : ls ≠ j) (n2 : N ≠ j) (n3 : N ≠ ls) (hn : its.size ≤ sizeLine)
    (h0 : s.heap.get? N = some { cls := .type "list", data := .seq #[] })
    (hR : ∀ h' tk acc' c', (∀ b o, b ≠ N → b ≠ j → s.heap.get? b = some o → h'.get? b = some o) → h'.get? N = some { cls := .type "list", dict := none, data := .seq acc' c', slots := #[] } → ItemsOf (fun i v => its[its.size - 1 - i]? = some v) acc' its.size → R (.ok (.ret .none)) { s with heap := h', toks := tk }) :
    wpAny (model prog w) A.in1 (Builtin.«list.__init__» ⟨[.ref N, .ref j], []⟩) (fun fin s' => match fin with
      | .done f => R (.ok f) s'
      | .again c' => c'.quiet = true ∧ codeAny (model prog w) A c' R s') (fun e s' => R (.error e) s') s := by
  show wpAny _ _ (do
    let old ← Builtin.List.listItems (.ref N)
    Builtin.List.listUpdate (.ref N) (fun _ => #[])
    letGo old.toList.reverse
    Builtin.List.listExtendWith (.ref N) (.ref j) .none) _ _ s
  refine wpAny_bind ?_
  unfold Builtin.List.listItems
  refine wpAny_bind (wpAny_seqItems h0 rfl (wpAny_pure ?_))
  show wpAny _ _ (updateSeq N (fun _ => #[]) >>= fun _ => letGo (#[] : Array Value).toList.reverse >>= fun _ => Builtin.List.listExtendWith (.ref N) (.ref j) .none) _ _ s
  refine wpAny_bind (wpAny_updateSeq h0 rfl ?_)
  have h2 := Heap.get?_update_self (Obj.mapSeq (fun _ => (#[] : Array Value))) h0 rfl
  have other : ∀ b o, b ≠ N → s.heap.get? b = some o → (s.heap.update N (Obj.mapSeq (fun _ => (#[] : Array Value)))).get? b = some o := fun b o hb e => (Heap.get?_update_other _ _ (Ne.symm hb)).trans e
  refine wpAny_bind (wpAny_letGo ?_)
  have W := (Walks.listRev (prog := prog) (w := w) (A := A.in1) hh j ls n1 its).toS
  have hf : N ∉ [j, ls] := by
    simp only [List.mem_cons, List.not_mem_nil, or_false, not_or]
    exact ⟨n2, n3⟩
  have hj1 : (s.heap.update N (Obj.mapSeq (fun _ => (#[] : Array Value)))).IsRevIter j ls ((its.size : Int) - 1) := hj.at fun o e => other j o (Ne.symm n2) e
  have hl1 : (s.heap.update N (Obj.mapSeq (fun _ => (#[] : Array Value)))).IsList ls its := by
    obtain ⟨ol, hol, hr⟩ := hls
    exact ⟨ol, other ls ol (Ne.symm n3) hol, hr⟩
  have hT : ({ s with heap := s.heap.update N (Obj.mapSeq (fun _ => (#[] : Array Value))) } : Shared).TypeIs (.ref j) "list_reverseiterator" :=
    Heap.IsRevIter.typeIs (s := { s with heap := s.heap.update N (Obj.mapSeq (fun _ => (#[] : Array Value))) }) hj1
  have hr : Builtin.List.listSameRef (.ref N) (.ref j) = false := by simp [Builtin.List.listSameRef, n2]
  unfold Builtin.List.listExtendWith
  refine wpAny_bind (wpAny_typeOf hT ?_)
  rw [if_neg (by rw [hr]; decide)]
  refine wpAny_bind (wpAny_pyIter_revIter (s := { s with heap := s.heap.update N (Obj.mapSeq (fun _ => (#[] : Array Value))) }) hj1 ?_)
  refine wpAny_bind (wpAny_holding ?_)
  unfold Builtin.List.listLengthHint
  refine wpAny_bind (wpAny_specialOf hT nolen_lri ?_)
  show wpAny _ A.in1 (specialOf (Value.ref j) (Str.ofString "__length_hint__") >>= _) _ _ _
  refine wpAny_bind (wpAny_specialOf hT hint_lri ?_)
  generalize hid : ("list_reverseiterator.__length_hint__" : String) = nm
  wp_delta
  rw [show splitId nm = some ("list_reverseiterator", "__length_hint__") from by subst hid; decide +kernel]
  subst hid
  refine wpAny_bind (wpAny_isInstance (b := true) hT (by rw [isSubtype_type]; kernel_rfl) ?_)
  refine wpAny_pure ?_
  rw [if_neg (by decide)]
  have e0 : ((its.size : Nat) : Int) - 1 - ((0 : Nat) : Int) = (its.size : Int) - 1 := by omega
  refine wpAny_pure ⟨plainId_quiet PySem.F.plain_extend_loop _, codeAny_extend_loopS W hn _ hf _ its.size 0 _ _ _ rfl (Nat.zero_le _) ⟨Nat.zero_le _, by rw [e0]; exact hj1, hl1⟩ h2 (ItemsOf.nil _) fun s' acc' c' hm hS' hacc => ?_⟩
  rw [Moved.eq_with hm]
  refine hR s'.heap s'.toks acc' c' (fun b o hb hbj e => hm.heap b o (fun hmem => ?_) (other b o hb e)) hS' hacc
  rcases List.mem_cons.mp hmem with e' | hmem
  · exact hb e'
  · exact hbj (List.mem_singleton.mp hmem)
theorem lr_call {j ls : Addr} {its : Array Value} {Q : Value → Shared → Prop} (hh : A.handled = none) (hj : s.heap.IsRevIter j ls ((its.size : Int) - 1)) (hls : s.heap.IsList ls its) (n1 : ls ≠ j) (hn : its.size ≤ sizeLine)
    (hQ : ∀ h' tk acc' c', (∀ b o, b ≠ j → s.heap.get? b = some o → h'.get? b = some o) → h'.get? s.heap.objs.size = some { cls := .type "list", dict := none, data := .seq acc' c', slots := #[] } → ItemsOf (fun i v => its[its.size - 1 - i]? = some v) acc' its.size →
      Q (.ref s.heap.objs.size) { s with heap := h', toks := tk }) :
    wpAny (model prog w) A (call (.type "list") [.ref j]) Q E s := by
  obtain ⟨oj, hoj, _⟩ := id hj
  obtain ⟨ol, hol, _⟩ := id hls
  refine callType_codes (Q₁ := fun obj s₁ => obj = .ref s.heap.objs.size ∧ s₁ = { s with heap := s.heap.push { cls := .type "list", data := .seq #[] } }) PySem.F.called_list (PySem.F.typeCall_list_1 _) PySem.F.entry_list_init
    (code_list_new _ ⟨rfl, rfl⟩) fun obj s₁ h₁ => ?_
  obtain ⟨rfl, rfl⟩ := h₁
  have hN : (s.heap.push { cls := .type "list", data := .seq #[] }).get? s.heap.objs.size = some { cls := .type "list", data := .seq #[] } := Heap.get?_push_size _ rfl
  refine ⟨⟨_, hN, rfl⟩, PySem.F.args_list_init_2 _ _, lr_init (A := A.in1) hh (hj.at fun o e => Heap.get?_push_of_some _ e) (hls.push _) n1 (Nat.ne_of_gt (Heap.lt_size hoj)) (Nat.ne_of_gt (Heap.lt_size hol)) hn hN (fun h' tk acc' c' hk hS' hacc => ?_)⟩
  exact ⟨rfl, hQ h' tk acc' c' (fun b o hb e => hk b o (Nat.ne_of_lt (Heap.lt_size e)) hb (Heap.get?_push_of_some _ e)) hS' hacc⟩
end
end K2R
namespace L2
open PySem PySem.Spec PyProof.Rows
def tListRev (K : PySem.W.Frag) (te : TE) : TE := fun σ H Q => te σ H fun v H1 => ∃ (a : Addr) (xs : List V), v = .ref a ∧ SqL K H1 a xs ∧ ∀ p, H1 p = none → Q (.ref p) (upd H1 p (.lst xs.reverse))
section
variable {X : Cx}
/-- list(reversed(a list)) -/
theorem pe_listRev {e : Expr} {te : TE} {p p2 pos pos2 : Pos} (hc : X.calm = true) (hg : Gl X "list") (hm : X.mg "list" = none) (hg2 : Gl X "reversed") (hm2 : X.mg "reversed" = none) (he : PE X e te) (hs : starEach [e] X.env = (false, eval e X.env) :: starEach [] X.env := by rfl)
    (hs2 : starEach [.Call (.Name "reversed" p2) [e] [] pos2] X.env = (false, eval (.Call (.Name "reversed" p2) [e] [] pos2) X.env) :: starEach [] X.env := by rfl) : PE X (.Call (.Name "list" p) [.Call (.Name "reversed" p2) [e] [] pos2] [] pos) (tListRev X.K te) := by
  refine ⟨fun pins s σ H Q I h => ?_⟩
  refine Call_ (ld_blt I hg hm boot_list (PyProof.Rows.callWith_type1 (args_cons (Call_ (ld_blt I hg2 hm2 PyProof.Rows.boot_reversed (PyProof.Rows.callWith_type1 (args_cons (thn (he.run pins s σ H _ I h) fun u s1 ⟨v, H1, I1, r1, q1⟩ => args_nil ?_) hs) hs rfl))) hs2) hs2 rfl))
  obtain ⟨a, xs, rfl, hq, q⟩ := q1
  obtain rfl : u = Value.ref a := r1
  obtain ⟨its, rv, p', hz⟩ := I1.list hq
  refine call_reversed_list p'.isList (args_nil ?_)
  have hl := p'.isList
  obtain ⟨ol, hol, _⟩ := id hl
  refine K2R.lr_call (s := { s1 with heap := s1.heap.push (revObj a ((its.toArray.size : Int) - 1)) }) (I1.ok.hd hc) ⟨_, Heap.get?_push_size _ rfl, rfl, rfl⟩ (hl.push _) (Nat.ne_of_lt (Heap.lt_size hol)) (by rw [List.size_toArray, ← rv.length]; exact hz) fun h' tk acc' c' hk hN hi => ?_
  have hz2 : (xs.reverse).length ≤ sizeLine := by rw [List.length_reverse]; exact hz
  have ek : ∀ b o, s1.heap.get? b = some o → h'.get? b = some o := fun b o e => hk b o (Nat.ne_of_lt (Heap.lt_size e)) (Heap.get?_push_of_some _ e)
  have es : (s1.heap.push (revObj a ((its.toArray.size : Int) - 1))).objs.size = s1.heap.objs.size + 1 := Array.size_push ..
  have hN2 : h'.get? (s1.heap.objs.size + 1) = some { cls := .type "list", dict := none, data := .seq acc'.toList.toArray c', slots := #[] } := by
    rw [Array.toArray_toList, ← es]
    exact hN
  have hle : s1.heap.objs.size ≤ s1.heap.objs.size + 1 := Nat.le_succ _
  have hfin : EP X pins σ Q (.ref (s1.heap.objs.size + 1)) { s1 with heap := h', toks := tk } :=
    ⟨.ref (s1.heap.objs.size + 1), upd H1 (s1.heap.objs.size + 1) (.lst xs.reverse), I1.laid (t' := tk) ek hle ⟨hz2, acc'.toList, c', RT.vals_rev rv hi, hN2⟩, rfl, q _ (I1.hok.fresh hle)⟩
  rw [← es] at hfin
  exact hfin
end
end L2

namespace K2
open PySem L2
/-! ### classes -/
structure KC (K : PySem.W.Frag) (C fI : Addr) (fs : List Str) : Prop where
  mkC : Mk K C fI
  cl : Cls K C
  na : ∀ f ∈ fs, NoAttr K C f
def CCf : List Str := ["octets", "sure"]
def CHf : List Str := ["rest"]
def CDf : List Str := ["_contents", "_sure_contents", "_changes", "_allowed", "_done"]
theorem mk_same {H H1 : Hp} {x dx : Addr} {a b : HO} (nx : H x = none) (ndx : H dx = none) (k : ∀ c o, (upd (upd H dx a) x b) c = some o → c ≠ x → H1 c = some o) : Same H H1 := fun c o h =>
  k c o (by rw [upd_ne (ne_of_none h nx), upd_ne (ne_of_none h ndx)]; exact h) (ne_of_none h nx)
structure Nm (mg : Str → Option Value) : Prop where
  range : mg "range" = none
  int : mg "int" = none
  len : mg "len" = none
  isinstance : mg "isinstance" = none
  bool : mg "bool" = none
  str : mg "str" = none
  min : mg "min" = none
  max : mg "max" = none
  sum : mg "sum" = none
  abs : mg "abs" = none
  enumerate : mg "enumerate" = none
  tuple : mg "tuple" = none
  list : mg "list" = none
  sorted : mg "sorted" = none
  zip : mg "zip" = none
  reversed : mg "reversed" = none
  dict : mg "dict" = none
  ve : mg "ValueError" = none
section
variable {P : Program} {w : World} {K : PySem.W.Frag} {mg : Str → Option Value} {base : Heap}
def spCInit (CC : Addr) : Sp := fun vs H Q _ => ∃ (x dx l : Addr) (os : List V), vs = [.ref x, .ref l] ∧ H x = some (.ins CC dx []) ∧ H l = some (.lst os) ∧
  ∀ H', (∀ c o, H c = some o → c ≠ x → H' c = some o) → H' x = some (.ins CC dx [("octets", .ref l), ("sure", .int (os.length : Int))]) → Q .non H'
theorem scCInit : FnScope ["self", "octets"] ["self", "octets"] (defScope sContentInit) := ⟨rfl, rfl, rfl, by decide +kernel, rfl, by decide +kernel, by decide +kernel⟩
theorem ok_cInit {f CC : Addr} {fd : FuncData} (F : Fun K "__init__" "Content.__init__" sContentInit f fd) (N : Nm mg) (T : KC K CC f CCf) : FnOk P w K mg base CX0 1 f fd ["self", "octets"] (spCInit CC) := by
  refine F.ok scCInit (fun vs H Q E h => ?_) (fun cdv A outer s H vs Q E hr h => ?_)
  · obtain ⟨x, dx, l, os, rfl, _⟩ := h
    rfl
  · obtain ⟨x, dx, l, os, rfl, hx, hl, q⟩ := h
    refine ⟨_, pss_cons (ps_fld (pv 0) (pv 1) rfl) (pss_one (ps_fld (pv 0) (pe_callB call_len_seq (by rfl) N.len PySem.boot_len (pa_cons (pv 1) pa_nil)) rfl)), ?_⟩
    have nlx : l ≠ x := ne_of hl hx (by intro z; cases z)
    refine ⟨_, rfl, _, rfl, x, CC, dx, [], rfl, hx, T.cl, T.na _ (by decide +kernel), (by decide), ?_⟩
    refine ⟨_, rfl, l, os, rfl, .inl (.inl (.inl (by rw [upd_ne nlx]; exact hl))), _, rfl, x, CC, dx, [("octets", .ref l)], rfl, upd_same, T.cl, T.na _ (by decide +kernel), (by show 1 < 1000; decide), q _ (fun c o h n => ?_) upd_same⟩
    rw [upd_ne n, upd_ne n]
    exact h
/-! choices -/
def ChAt (CH : Addr) (H : Hp) (h r : Addr) (cs : List Int) : Prop := (∃ dx, H h = some (.ins CH dx [("rest", .ref r)])) ∧ H r = some (.lst (cs.reverse.map V.int))
def spHInit (K : PySem.W.Frag) (CH : Addr) : Sp := fun vs H Q _ => ∃ (x dx l : Addr) (cs : List Int), vs = [.ref x, .ref l] ∧ H x = some (.ins CH dx []) ∧ SqL K H l (cs.map V.int) ∧
  ∀ H' r, (∀ c o, H c = some o → c ≠ x → H' c = some o) → H r = none → ChAt CH H' x r cs → Q .non H'
theorem scHInit : FnScope ["self", "choices"] ["self", "choices"] (defScope sChoicesInit) := ⟨rfl, rfl, rfl, by decide +kernel, rfl, by decide +kernel, by decide +kernel⟩
theorem ok_hInit {f CH : Addr} {fd : FuncData} (F : Fun K "__init__" "Choices.__init__" sChoicesInit f fd) (N : Nm mg) (T : KC K CH f CHf) : FnOk P w K mg base CX0 1 f fd ["self", "choices"] (spHInit K CH) := by
  refine F.ok scHInit (fun vs H Q E h => ?_) (fun cdv A outer s H vs Q E hr h => ?_)
  · obtain ⟨x, dx, l, cs, rfl, _⟩ := h
    rfl
  · obtain ⟨x, dx, l, cs, rfl, hx, hl, q⟩ := h
    refine ⟨_, pss_one (ps_fld (pv 0) (pe_listRev rfl (by rfl) N.list (by rfl) N.reversed (pv 1)) rfl), ?_⟩
    refine ⟨_, rfl, l, _, rfl, hl, fun r nr => ?_⟩
    have nxr : x ≠ r := ne_of_none hx nr
    refine ⟨_, rfl, x, CH, dx, [], rfl, by rw [upd_ne nxr]; exact hx, T.cl, T.na _ (by decide +kernel), (by decide), q _ r (fun c o h n => ?_) nr ⟨⟨dx, upd_same⟩, ?_⟩⟩
    · rw [upd_ne n, upd_ne (ne_of_none h nr)]
      exact h
    · rw [upd_ne nxr.symm, upd_same, List.map_reverse]
def nb (cs : List Int) (b : Int) : Int := (cs.head?.getD 0) % b
def spNB (CH : Addr) : Sp := fun vs H Q _ => ∃ (h r : Addr) (b : Int) (cs : List Int), vs = [.ref h, .int b] ∧ 0 < b ∧ ChAt CH H h r cs ∧
  ∀ H', (∀ a o, H a = some o → a ≠ r → H' a = some o) → ChAt CH H' h r cs.tail → Q (.int (nb cs b)) H'
theorem scNB : FnScope ["self", "bound"] ["self", "bound"] (defScope sChoicesNextBelow) := ⟨rfl, rfl, rfl, by decide +kernel, rfl, by decide +kernel, by decide +kernel⟩
theorem ok_nb {f fI CH : Addr} {fd : FuncData} (F : Fun K "next_below" "Choices.next_below" sChoicesNextBelow f fd) (T : KC K CH fI CHf) : FnOk P w K mg base CX0 1 f fd ["self", "bound"] (spNB CH) := by
  refine F.ok scNB (fun vs H Q E h => ?_) (fun cdv A outer s H vs Q E hr h => ?_)
  · obtain ⟨h, r, b, cs, rfl, _⟩ := h
    rfl
  · obtain ⟨h, r, b, cs, rfl, hb, ⟨⟨dx, hh⟩, hr2⟩, q⟩ := h
    refine ⟨_, pss_one (ps_ret (pe_ifExp (pt_truth (pe_fld (pv 0) rfl) (by intro _; rfl)) (pe_op op_mod (pe_bm0 PySem.F.plainAttrs_list PySem.F.slot_list_pop PySem.F.type_list_pop mt_pop (pe_fld (pv 0) rfl)) (pv 1)) pe_int)), ?_⟩
    refine ⟨_, rfl, h, CH, dx, _, .ref r, rfl, hh, T.cl, T.na _ (by decide +kernel), rfl, _, .inl ⟨_, .inl (.inl hr2), rfl⟩, ?_⟩
    have nhr : h ≠ r := ne_of hh hr2 (by intro z; cases z)
    cases cs with
    | nil =>
      refine iteF ?_
      have := q H (fun a o h _ => h) ⟨⟨dx, hh⟩, hr2⟩
      rwa [show nb [] b = 0 from Int.zero_emod b] at this
    | cons c cs =>
      refine iteB (by rw [List.reverse_cons, List.map_append]; show (!(_ ++ [V.int c]).isEmpty) = true; simp) ?_
      refine ⟨_, rfl, h, CH, dx, _, .ref r, rfl, hh, T.cl, T.na _ (by decide +kernel), rfl, .inl ⟨rfl, _, .inl (.inl hr2)⟩, r, _, .int c, rfl, rfl, hr2, ?_, ?_⟩
      · rw [List.reverse_cons, List.map_append, List.length_append, List.getElem?_append_right (by simp)]
        simp
      · refine ⟨_, rfl, c, b, rfl, rfl, hb, q _ (fun a o h n => ?_) ⟨⟨dx, ?_⟩, ?_⟩⟩
        · rw [upd_ne n]; exact h
        · rw [upd_ne nhr]; exact hh
        · rw [upd_same, List.reverse_cons, List.map_append]
          show some (HO.lst (_ ++ [V.int c]).dropLast) = _
          rw [List.dropLast_concat]
          rfl
/-! changes of names -/
def ctup (cas : Nat → Addr) : Cg → List V
  | .make n i => [.non, .str n, .ref (cas i)]
  | .ren a b i => [.str a, .str b, .ref (cas i)]
  | .rem a => [.str a, .non, .non]
def spCN : Sp := fun vs H Q _ => ∃ (kd t : Addr) (cas : Nat → Addr) (tb : Tb) (c : Cg), vs = [.ref kd, .ref t] ∧ H t = some (.tup (ctup cas c)) ∧ H kd = some (.dK (mp (fun i => .ref (cas i)) tb)) ∧ okC tb c ∧ tb.length ≤ 1000 ∧
  ∀ H', (∀ a o, H a = some o → a ≠ kd → H' a = some o) → H' kd = some (.dK (mp (fun i => .ref (cas i)) (mv tb c))) → Q .non H'
theorem scCN : FnScope ["contents", "change", "old", "new", "content"] ["contents", "change"] (defScope sChangeNames) := ⟨rfl, rfl, rfl, by decide +kernel, rfl, by decide +kernel, by decide +kernel⟩
theorem ok_cn {f : Addr} {fd : FuncData} (F : Fun K "change_names" "change_names" sChangeNames f fd) : FnOk P w K mg base CX0 1 f fd ["contents", "change"] spCN := by
  refine F.ok scCN (fun vs H Q E h => ?_) (fun cdv A outer s H vs Q E hr h => ?_)
  · obtain ⟨kd, t, cas, tb, c, rfl, _⟩ := h
    rfl
  · obtain ⟨kd, t, cas, tb, c, rfl, ht, hk, ok, hl, q⟩ := h
    have hu := hu_of hr
    refine ⟨_, pss_cons (ps_asg (pv 1) (pg_tup (by rfl) (pgs_cons (pg_name (i := 2) scCN.nd rfl (.inl rfl)) (pgs_cons (pg_name (i := 3) scCN.nd rfl (.inl rfl)) (pgs_cons (pg_name (i := 4) scCN.nd rfl (.inl rfl)) pgs_nil)))))
      (pss_cons (ps_if (pt_cmpR op_notN (pv 2) pe_non (nomark _)) (pss_one (ps_ddel (pv 0) (pv 2))) pss_nil)
      (pss_one (ps_if (pt_cmpR op_notN (pv 3) pe_non (nomark _)) (pss_one (ps_dput hu (pv 0) (pv 3) (pv 4) rfl)) pss_nil))), ?_⟩
    have gl : ∀ tb : Tb, tb.length ≤ 1000 → (mp (fun i => V.ref (cas i)) tb).length < sizeLine := fun tb h => by
      rw [mp_len]
      exact small1000 h
    cases c with
    | make n i =>
      refine ⟨_, rfl, t, _, rfl, SqT.of ht, rfl, _, _, rfl, _, _, rfl, _, _, rfl, rfl, ?_⟩
      refine ⟨_, rfl, rfl, _, rfl, iteF ⟨_, rfl, rfl, _, rfl, iteT ?_⟩⟩
      refine ⟨_, rfl, _, rfl, _, rfl, kd, _, rfl, DPut.k (k := (Sum.inr n : Key)) hk (gl _ hl), q _ (fun a o h m => ?_) ?_⟩
      · rw [upd_ne m]; exact h
      · rw [upd_same, mp_put (fun i => V.ref (cas i)) tb n i]; rfl
    | ren a b i =>
      refine ⟨_, rfl, t, _, rfl, SqT.of ht, rfl, _, _, rfl, _, _, rfl, _, _, rfl, rfl, ?_⟩
      have hd : (valV (mp (fun i => V.ref (cas i)) tb) (Sum.inr a)).isSome = true := by
        rw [mp_get, show tget tb a = some i from ok]
        rfl
      refine ⟨_, rfl, rfl, _, rfl, iteT ⟨_, rfl, _, rfl, kd, _, Sum.inr a, rfl, hk, rfl, hd, ?_⟩⟩
      refine ⟨_, rfl, rfl, _, rfl, iteT ?_⟩
      have hk2 : (upd H kd (.dK (dropK (mp (fun i => V.ref (cas i)) tb) (Sum.inr a)))) kd = some (.dK (mp (fun i => V.ref (cas i)) (tdrop tb a))) := by rw [upd_same, mp_drop]
      refine ⟨_, rfl, _, rfl, _, rfl, kd, _, rfl, DPut.k (k := (Sum.inr b : Key)) hk2 (gl _ (Nat.le_trans (List.length_filter_le _ _) hl)), q _ (fun c o h m => ?_) ?_⟩
      · rw [upd_ne m, upd_ne m]; exact h
      · rw [upd_same, mp_put (fun i => V.ref (cas i)) (tdrop tb a) b i]; rfl
    | rem a =>
      obtain ⟨i, hi⟩ := ok
      refine ⟨_, rfl, t, _, rfl, SqT.of ht, rfl, _, _, rfl, _, _, rfl, _, _, rfl, rfl, ?_⟩
      have hd : (valV (mp (fun i => V.ref (cas i)) tb) (Sum.inr a)).isSome = true := by
        rw [mp_get, hi]
        rfl
      refine ⟨_, rfl, rfl, _, rfl, iteT ⟨_, rfl, _, rfl, kd, _, Sum.inr a, rfl, hk, rfl, hd, ?_⟩⟩
      refine ⟨_, rfl, rfl, _, rfl, iteF (q _ (fun c o h m => ?_) ?_)⟩
      · rw [upd_ne m]; exact h
      · rw [upd_same, mp_drop]; rfl
end
theorem isE_map (l : List Int) : (l.map V.int).isEmpty = l.isEmpty := by cases l <;> rfl
theorem ps_dead {X : Cx} {st : Stmt} : PS X st (fun _ _ _ => False) := ⟨fun _ _ _ _ _ _ h => h.elim⟩
theorem pss_dead {X : Cx} {l : List Stmt} : PSs X l (fun _ _ _ => False) := ⟨fun _ _ _ _ _ _ h => h.elim⟩
end K2

namespace PySem.W
open PySem PySem.Spec PySem.Calls PyProof.Rows Builtin Builtin.ObjectAttr Builtin.Getset_descriptor
section
variable {prog : Program} {w : World} {A : Around} {E : Value → Shared → Prop} {s : Shared} {K : Frag} {x C : Addr} {ox : Obj} {od : Option Obj} {R : Result → Shared → Prop}
/-- e.__class__, as an expression, for an instance of an exception class of the program -/
theorem mx_classE {gt : Option Value} {Q : Value → Shared → Prop} {ex : Bool} (X : K.In s.heap) (I : InstAt s.heap x ox C od) (hga : findIn K (.ref C) "__getattribute__" = some (some (.builtin "BaseException.__getattribute__"))) (hgt : findIn K (.ref C) "__getattr__" = some gt)
    (hsub : subIn K (.ref C) (.type "BaseException") = some true) (hf : findObj K C od "__class__" = some (.bind (.builtin "getset_descriptor.__get__") (.builtin "object.__class__"))) (hm : mroIn K C (.type "object") = some true)
    (h : Q (.ref C) { s with toks := s.toks + 1 }) : wpAny (model prog w) A (getAttr (.ref x) "__class__" ex) Q E s := by
  obtain ⟨hp, g, d, t, os⟩ := s
  have L0 := I.type (M := model prog w)
  have L1 := looks_findIn (M := model prog w) X hga
  have L2 := looks_findIn (M := model prog w) X hgt
  have L3 := looks_find (M := model prog w) X I hf
  have sub : Looks (model prog w) hp (isInstance (.ref x) (.type "BaseException")) true := L0.andThen (looks_subIn X hsub)
  have hx0 : (ex && onTheHeap (Value.builtin "BaseException.__getattribute__")) = false := by cases ex <;> rfl
  have hx2 : (Value.builtin "BaseException.__getattribute__" == Value.builtin "object.__getattribute__") = false := by decide +kernel
  have hx1 : (onTheHeap (Value.ref C) && Value.builtin "BaseException.__getattribute__" == Value.builtin "object.__getattribute__") = false := by rw [hx2]; rfl
  unfold getAttr getAttrBy
  refine wpAny_bind (wpAny_mkText (wpAny_holding (wpAny_bind (L0.at (wpAny_bind (L1.at ?_))))))
  show wpAny _ _ (if (onTheHeap (Value.ref C) && Value.builtin "BaseException.__getattribute__" == Value.builtin "object.__getattribute__") = true then _ else _) _ _ _
  rw [hx1, if_neg Bool.false_ne_true]
  unfold getAttrByItsOwn hookBefore
  refine wpAny_bind ?_
  rw [if_pos (show onTheHeap (Value.ref C) = true from rfl)]
  refine L2.at ?_
  refine wpAny_bind (wpAny_attempt (wpAny_holding ?_))
  unfold callGetattribute
  rw [hx0, if_neg Bool.false_ne_true]
  unfold boundAndCalled
  rw [PySem.F.excAttr_ValueError.ga.bind (.ref x)]
  refine wpAny_bind (wpAny_pure ?_)
  show wpAny _ _ (call (.builtin "BaseException.__getattribute__") [.ref x, .str "__class__" t]) _ _ _
  refine wpAny_call (codeAny_call_builtin PySem.F.excAttr_ValueError.ga.plain PySem.F.entry_bexc_ga ?_)
  refine @PySem.W.check_slot (model prog w) _ _ ⟨hp, g, d, t + 1, os⟩ "BaseException.__getattribute__" "BaseException" "__getattribute__" (.ref x) [.str "__class__" t] [] _ (by decide +kernel) (by decide +kernel) sub (PySem.F.args_bexc_ga (.ref x) (.str "__class__" t)) ?_
  unfold Builtin.«object.__getattribute__»
  refine wpAny_bind (wpAny_of_eq (a := ((Value.ref x : Value), [Value.str "__class__" t])) (by first | rfl | (simp only [slotArgs]; rfl)) ?_)
  refine wpAny_bind (wpAny_pure (wpAny_bind (L0.at (wpAny_bind (L3.at ?_)))))
  refine wpAny_bind (wpAny_holding (wpAny_call (class_get (s := ⟨hp, g, d, t + 1, os⟩) (ox := ox) (od := od) X I hm ?_)))
  refine wpAny_pure ?_
  show wpAny _ _ (handedOut (.ref C)) _ _ _
  rw [handedOut_of (show handedIn (.ref C) = true from rfl)]
  first | exact wpAny_pure h | exact wpAny_pure (wpAny_pure h)
/-- C.__name__ of a class of the program whose name is kept -/
theorem mx_nameC {o : Obj} {nm : Str} {tk : Tok} {tp : Value} (X : K.In s.heap) (ht : typeIn K (.ref C) = some (.type "type")) (hl : K.lookup C = some o) (hs : o.slots[2]? = some (some (.str nm tk))) (h : R (.ok (.ret (.str nm tk))) s) :
    codeAny (model prog w) A (.call (.builtin "getset_descriptor.__get__") ⟨[.builtin "type.__name__", .ref C, tp], []⟩) R s := by
  obtain ⟨hh, g, dr, t, os⟩ := s
  have L0 := looks_typeIn (M := model prog w) X ht
  have L1 : Looks (model prog w) hh (isSubtype (.type "type") (.type "type")) true := Looks.of_pure (by rw [isSubtype_type]; kernel_rfl)
  have ho := X _ _ hl
  refine codeAny_call_builtin KF.slot_gs.plain KF.entry_gs (KF.slot_gs.check _ _ _ _ _ _ _ _ ktyn_type (KF.args_gs _ _ _) ?_)
  unfold Builtin.«getset_descriptor.__get__» descrGet
  rw [dga_obj]
  refine wpAny_bind (wpAny_pure ?_)
  unfold descrGetter descrCheckInstance descrNameAndClass isInstance
  simp only [ktyn_owner]
  repeat lk
  refine ⟨Code.quiet_builtin _ (by decide +kernel), codeAny_builtin ktyn_entry ?_⟩
  unfold Builtin.«type.__name__»
  dsimp only
  unfold keptObject slotAt
  dsimp only
  refine wpAny_bind (wpAny_bind (wpAny_loadPart ho (wpAny_pure ?_)))
  rw [hs]
  first
    | exact wpAny_bind (wpAny_pure h)
    | exact wpAny_pure h
    | exact wpAny_bind (wpAny_pure (wpAny_pure h))
end
end PySem.W
namespace L2
open PySem PySem.Spec PyProof.Rows
/-- what the written part says of an exception class's name -/
structure NameC (K : PySem.W.Frag) (C : Addr) (nm : Str) : Prop where
  rd : PySem.W.readsIn K C (.type "type") = true
  fc : PySem.W.findCls K (.ref C) (.type "type") "__name__" = some (.get (.builtin "getset_descriptor.__get__") (.builtin "type.__name__") (.ref C) (.type "type"))
  ty : PySem.W.typeIn K (.ref C) = some (.type "type")
  lk : ∃ o tk, K.lookup C = some o ∧ o.slots[2]? = some (some (.str nm tk))
/-- e.__class__, e an exception that is being made -/
def tECls (K : PySem.W.Frag) (te : TE) : TE := fun σ H Q => te σ H fun x H1 => ∃ (a C : Addr) (d : Option Addr), x = .ref a ∧ ExcC K C ∧ H1 a = some (exo a C d) ∧ (∀ dx, d = some dx → ∃ fs, H1 dx = some (exd dx fs)) ∧ Q (.ref C) H1
/-- C.__name__ -/
def tCNm (K : PySem.W.Frag) (te : TE) : TE := fun σ H Q => te σ H fun x H1 => ∃ (C : Addr) (nm : Str), x = .ref C ∧ NameC K C nm ∧ Q (.str nm) H1
section
variable {X : Cx} {e : Expr} {te : TE} {pos : Pos}
theorem pe_eclass (he : PE X e te) (hb : attributeBase e "__class__" X.env (eval e X.env) = eval e X.env := by rfl) : PE X (.Attribute e "__class__" pos) (tECls X.K te) := by
  refine ⟨fun pins s σ H Q I h => ?_⟩
  refine attr_of hb (thn (he.run pins s σ H _ I h) fun u s1 ⟨x, H1, I1, rx, a, C, d, ex, T, ea, hd, q⟩ => ?_)
  subst ex
  obtain rfl : u = Value.ref a := rx
  obtain ⟨t1, ho⟩ := exo_at I1.hok ea
  have hcl : (PySem.W.clsIn X.K C).isSome = true := by
    obtain ⟨cd, hc, _⟩ := PySem.W.any_some T.hd
    rw [hc]
    rfl
  have key : ∀ od, PySem.W.InstAt s1.heap a { cls := .ref C, dict := d, data := .fields #[.ref t1, .none, .none, .none, .bool false, .none] } C od → wpAny (model X.prog X.w) X.A (getAttr (.ref a) "__class__" true) (EP X pins σ Q) X.xe s1 := fun od J =>
    PySem.W.mx_classE I1.kIn J T.hg T.hk T.hs (PySem.W.findObj_dataE hcl T.ha T.hn T.ht) T.hm ⟨.ref C, H1, I1.tok _, rfl, q⟩
  cases d with
  | none => exact key none ⟨ho, rfl, rfl, trivial⟩
  | some dx =>
    obtain ⟨fs, ed⟩ := hd dx rfl
    obtain ⟨mA, ⟨oD, _, _, hoD, _⟩, _⟩ := exd_at I1.hok ed
    exact key (some oD) ⟨ho, rfl, rfl, hoD⟩
theorem pe_cname (he : PE X e te) (hb : attributeBase e "__name__" X.env (eval e X.env) = eval e X.env := by rfl) : PE X (.Attribute e "__name__" pos) (tCNm X.K te) := by
  refine ⟨fun pins s σ H Q I h => ?_⟩
  refine attr_of hb (thn (he.run pins s σ H _ I h) fun u s1 ⟨x, H1, I1, rx, C, nm, ex, T, q⟩ => ?_)
  subst ex
  obtain rfl : u = Value.ref C := rx
  obtain ⟨o, tk, hl, hs⟩ := T.lk
  refine PySem.W.cls_bind I1.kIn T.rd T.fc (wpAny_call (PySem.W.mx_nameC (s := { s1 with toks := s1.toks + 1 }) I1.kIn T.ty hl hs ?_))
  exact PySem.W.handed_on rfl ⟨.str nm, H1, I1.tok _, ⟨_, rfl⟩, q⟩
/-- isinstance(e, c), e the exception that the suite holds, which has its dict -/
def rIsE2 (K : PySem.W.Frag) (D a : Addr) (cls : Value) (d : Option Addr) : List V → Hp → VK → Prop := fun xs H Q => ∃ (c : V) (cv : Value) (b : Bool) (dd : Addr) (fs : List (Str × V)), xs = [.ref a, c] ∧ cls = .ref D ∧ d = some dd ∧ H dd = some (.xd fs) ∧ (∀ u, RelV c u → u = cv) ∧ PySem.W.kitOne K (.ref D) cv = some b ∧ Q (.bl b) H
theorem call_isE2 {a D : Addr} {oe : Obj} {cls : Value} {d : Option Addr} {pn : List (Addr × Obj)} (C : ExcC X.K D) (hz : Zc cls d oe) (hf : ∃ vs, oe.data = .fields vs) : CallR (X.suite a ((a, oe) :: pn)) (.builtin "isinstance") (rIsE2 X.K D a cls d) := by
  intro pins s σ H xs us Q I r h
  obtain ⟨c, cv, b, dd, fs, rfl, ec, ed, ea, hcv, e, q⟩ := h
  subst ec
  cases r with
  | cons rx rr =>
    cases rr with
    | cons rt rr =>
      cases rr
      cases rx
      have ec := hcv _ rt
      subst ec
      obtain ⟨hget, _⟩ := I.pin (a, oe) (List.mem_append.mpr (.inl List.mem_cons_self))
      obtain ⟨vs, hv⟩ := hf
      have hx : ObjOk X.prog X.w H s.heap dd (.xd fs) := I.hok dd _ ea
      obtain ⟨mA, ⟨od, _, _, hod, _⟩, _⟩ := hx
      have hcl : (PySem.W.clsIn X.K D).isSome = true := by
        obtain ⟨cd, hc, _⟩ := PySem.W.any_some C.hd
        rw [hc]
        rfl
      have J : PySem.W.InstAt s.heap a oe D (some od) := ⟨hget, hz.1, by unfold PySem.W.notCls; rw [hv] <;> rfl, by rw [hz.2, ed]; exact hod⟩
      exact PySem.W.kia_one (PySem.W.kitx_exc hcl C.hg C.hk C.hs C.ha C.hn C.ht C.hm) I.kIn J e (fun z => nomatch z) fun tk => ⟨.bl b, H, I.kept (t' := tk) fun _ _ z => z, rfl, q⟩
theorem passNo {X : Cx} : Passes (L2.CX X.prog X.w) X (fun _ _ _ => False) := fun _ _ _ _ _ _ _ h => by
  obtain ⟨_, _, _, _, _, _, _, _, _, _, _, _, q⟩ := h
  exact q.elim
end
end L2

namespace L2
open PySem PySem.Spec PyProof.Rows
/-- o.m(e, ..), what is raised is wished for at the caller's slots -/
def tMethX (C : Addr) (m : Str) (sp : Sp) (E : St → XK) (ta : TE) (t : TA) : TE := fun σ H Q => ta σ H fun x H1 => ∃ a dx fs, x = .ref a ∧ H1 a = some (.ins C dx fs) ∧ fs.lookup m = none ∧
    t σ H1 fun vs H2 => sp (x :: vs) H2 Q (E σ)
section
variable {X : Cx} {CX : CXT} {k : Nat} {f C : Addr} {fd : FuncData} {ps : List Str} {sp : Sp} {E : St → XK} {m : Str} {pos apos : Pos} {e o : Expr} {es : List Expr} {ta : TE} {t : TA}
theorem pe_methX {pl : Sem Bool} (ho : PE X o ta) (cl : Cls X.K C) (hm : Meth X.K C m f) (F : FnOk X.prog X.w X.K X.mg X.base CX k f fd ps sp) (room : Room k X.A) (hb : Binds X.K fd ps []) (hx : ∀ σ, PassesAt CX X σ (E σ)) (ha : PA X (e :: es) t)
    (hst : starEach (e :: es) X.env = (false, eval e X.env) :: starEach es X.env := by rfl) (hpl : (backTo pos (starEach es X.env)).any (·.1) = false := by rfl)
    (ht : eval (.Call (.Attribute o m apos) (e :: es) [] pos) X.env = (do
        let ov ← eval o X.env
        standAt apos.atName
        let (g, one) ← holding [ov] (getMethod ov m pl)
        callWith pos g one (backTo pos (starEach (e :: es) X.env)) (backToKw pos (keywordEach [] X.env))) := by rfl) : PE X (.Call (.Attribute o m apos) (e :: es) [] pos) (tMethX C m sp E ta t) := by
  refine ⟨fun pins s σ H Q I h => PySem.W.methodCall_KW (pl := pl) (thn (ho.run pins s σ H _ I h) fun u s1 ⟨x, H1, I1, rx, a, dx, fs, ex, ea, l, q⟩ => ?_) ht⟩
  subst ex
  obtain rfl : u = Value.ref a := rx
  refine getmeth_ok I1 ea cl hm l (PySem.W.callWith_K (first := [.ref a]) (h₀ := X.base) I.ok.mod.kin hm.kp (thn (ha.run pos pins s1 σ H1 _ I1 q) fun us s2 ⟨vs, H2, I2, r, q2⟩ => ⟨I2.kIn, ?_⟩) hst hpl)
  exact run_fnS (us := .ref a :: us) (vs := .ref a :: vs) F room hb (hx σ) I2 (.cons rfl r) q2
theorem pe_methX0 {pl : Sem Bool} (ho : PE X o ta) (cl : Cls X.K C) (hm : Meth X.K C m f) (F : FnOk X.prog X.w X.K X.mg X.base CX k f fd ps sp) (room : Room k X.A) (hb : Binds X.K fd ps []) (hx : ∀ σ, PassesAt CX X σ (E σ))
    (ht : eval (.Call (.Attribute o m apos) [] [] pos) X.env = (do
        let ov ← eval o X.env
        standAt apos.atName
        let (g, one) ← holding [ov] (getMethod ov m pl)
        callWith pos g one (backTo pos (starEach [] X.env)) (backToKw pos (keywordEach [] X.env))) := by rfl) : PE X (.Call (.Attribute o m apos) [] [] pos) (tMethX C m sp E ta tNil) := by
  refine ⟨fun pins s σ H Q I h => PySem.W.methodCall_KW (pl := pl) (thn (ho.run pins s σ H _ I h) fun u s1 ⟨x, H1, I1, rx, a, dx, fs, ex, ea, l, q⟩ => ?_) ht⟩
  subst ex
  obtain rfl : u = Value.ref a := rx
  exact getmeth_ok I1 ea cl hm l (PySem.W.callWith_K0 (first := [.ref a]) I1.kIn hm.kp (run_fnS (us := [.ref a]) (vs := [.ref a]) F room hb (hx σ) I1 (.cons rfl .nil) q))
end
end L2
namespace K2
open PySem L2
structure ErrC (K : PySem.W.Frag) (C fI : Addr) (nm : Str) : Prop where
  oc : OexC K C
  ec : ExcC K C
  nc : NameC K C nm
  xf : XfC K C
  noP : PySem.W.findIn K (.ref C) "place" = some none
  noN : PySem.W.findIn K (.ref C) "name" = some none
  iC : PySem.W.findIn K (.ref C) "__init__" = some (some (.ref fI))
  tI : PySem.W.typeIn K (.ref fI) = some (.type "function")
section
variable {P : Program} {w : World} {K : PySem.W.Frag} {mg : Str → Option Value} {base : Heap}
def spInit (K : PySem.W.Frag) (fI : Addr) : Sp := fun vs H Q _ => ∃ (a C : Addr) (nm : Str) (v : V), vs = [.ref a, v] ∧ ErrC K C fI nm ∧ H a = some (exo a C none) ∧
  ∀ dx, H dx = none → dx ≠ a → Q .non (upd (upd (upd H dx (exd dx [("place", v)])) a (exo a C (some dx))) dx (exd dx [("name", .str nm), ("place", v)]))
theorem scInit : FnScope ["self", "place"] ["self", "place"] (defScope sInit) := ⟨rfl, rfl, rfl, by decide +kernel, rfl, by decide +kernel, by decide +kernel⟩
theorem ok_init {f : Addr} {fd : FuncData} (F : Fun K "__init__" "ManysidesError.__init__" sInit f fd) : FnOk P w K mg base CX0 1 f fd ["self", "place"] (spInit K f) := by
  refine F.ok scInit (fun vs H Q E h => ?_) (fun cdv A outer s H vs Q E hr h => ?_)
  · obtain ⟨a, C, nm, v, rfl, _⟩ := h
    rfl
  · obtain ⟨a, C, nm, v, rfl, T, ha, q⟩ := h
    refine ⟨_, pss_cons (ps_ost (pv 0) (pv 1)) (pss_one (ps_ost (pv 0) (pe_cname (pe_eclass (pv 0))))), ?_⟩
    refine ⟨_, rfl, _, rfl, a, C, rfl, T.oc, T.noP, .inl ⟨ha, fun dx ndx nda => ?_⟩⟩
    have e1 : (upd (upd H dx (exd dx [("place", v)])) a (exo a C (some dx))) dx = some (exd dx [("place", v)]) := by rw [upd_ne nda, upd_same]
    refine ⟨_, rfl, a, C, some dx, rfl, T.ec, upd_same, fun d e => ?_, C, nm, rfl, T.nc, _, rfl, a, C, rfl, T.oc, T.noN, .inr ⟨dx, _, upd_same, e1, (by show 1 ≤ 900; decide), q dx ndx nda⟩⟩
    cases e
    exact ⟨_, e1⟩
end
theorem same_err {H H3 : Hp} {e dx : Addr} {o1 o2 o3 o4 o5 : HO} (sm : Same H H3) (ne : H3 e = none) (nx : H3 dx = none) : Same H (upd (del (upd (upd (upd (upd H3 e o1) dx o2) e o3) dx o4) e) dx o5) := fun b o hb => by
  have y := sm b o hb
  have n1 : b ≠ e := ne_of_none y ne
  have n2 : b ≠ dx := ne_of_none y nx
  rw [upd_ne n2, del_ne n1, upd_ne n2, upd_ne n1, upd_ne n2, upd_ne n1]
  exact y
def errD (i : Nat) : HO := .xd [("name", .str "PowerLost"), ("place", .int (i : Int))]
end K2

namespace K2
open PySem L2
/-! ### a disk -/
structure Cn where
  o : List Int
  s : Nat
structure DS where
  cs : List Cn
  tab : Tb
  sure : Tb
  chg : List Cg
  lim : Option Nat
  done : Nat
def ds0 : DS := ⟨[], [], [], [], none, 0⟩
structure DP where
  cas : Nat → Addr
  las : Nat → Addr
  kd : Addr
  sd : Addr
  cl : Addr
def foot (d : Addr) (p : DP) (n : Nat) (a : Addr) : Prop := a = d ∨ a = p.kd ∨ a = p.sd ∨ a = p.cl ∨ ∃ i, i < n ∧ (a = p.cas i ∨ a = p.las i)
def limV : Option Nat → V
  | none => .non
  | some n => .int (n : Int)
def dfs (p : DP) (l : Option Nat) (n : Nat) : List (Str × V) := [("_contents", .ref p.kd), ("_sure_contents", .ref p.sd), ("_changes", .ref p.cl), ("_allowed", limV l), ("_done", .int (n : Int))]
structure DkAt (CD CC : Addr) (H : Hp) (d : Addr) (st : DS) (p : DP) : Prop where
  inst : ∃ dx, H d = some (.ins CD dx (dfs p st.lim st.done))
  con : H p.kd = some (.dK (mp (fun i => .ref (p.cas i)) st.tab))
  sur : H p.sd = some (.dK (mp (fun i => .ref (p.cas i)) st.sure))
  chs : ∃ xs, H p.cl = some (.lst xs) ∧ Rows H xs (st.chg.map (ctup p.cas))
  cts : ∀ i c, st.cs[i]? = some c → ∃ dx, H (p.cas i) = some (.ins CC dx [("octets", .ref (p.las i)), ("sure", .int (c.s : Int))]) ∧ H (p.las i) = some (.lst (c.o.map V.int))
  n1 : p.kd ≠ p.sd
  n2 : ∀ i, i < st.cs.length → p.las i ≠ p.cl
  n3 : ∀ i j, i < st.cs.length → j < st.cs.length → p.las i = p.las j → i = j
  n4 : ∀ i j, i < st.cs.length → j < st.cs.length → p.cas i = p.cas j → i = j
section
variable {CD CC : Addr} {H H1 : Hp} {d : Addr} {st : DS} {p : DP}
theorem DkAt.occ (h : DkAt CD CC H d st p) {a : Addr} (f : foot d p st.cs.length a) : ∃ o, H a = some o ∧ ∀ r, o ≠ .tup r := by
  rcases f with rfl | rfl | rfl | rfl | ⟨i, hi, rfl | rfl⟩
  · obtain ⟨dx, e⟩ := h.inst; exact ⟨_, e, fun r z => nomatch z⟩
  · exact ⟨_, h.con, fun r z => nomatch z⟩
  · exact ⟨_, h.sur, fun r z => nomatch z⟩
  · obtain ⟨xs, e, _⟩ := h.chs; exact ⟨_, e, fun r z => nomatch z⟩
  · obtain ⟨dx, e, _⟩ := h.cts i _ (List.getElem?_eq_getElem hi); exact ⟨_, e, fun r z => nomatch z⟩
  · obtain ⟨dx, _, e⟩ := h.cts i _ (List.getElem?_eq_getElem hi); exact ⟨_, e, fun r z => nomatch z⟩
theorem DkAt.nfree (h : DkAt CD CC H d st p) {a : Addr} (n : H a = none) : ¬ foot d p st.cs.length a := fun f => by
  obtain ⟨o, e, _⟩ := h.occ f
  rw [n] at e
  cases e
theorem DkAt.ntup (h : DkAt CD CC H d st p) {a : Addr} {r : List V} (n : H a = some (.tup r)) : ¬ foot d p st.cs.length a := fun f => by
  obtain ⟨o, e, g⟩ := h.occ f
  rw [n] at e
  exact g r (Option.some.inj e).symm
theorem DkAt.keep (h : DkAt CD CC H d st p) (k : ∀ a o, H a = some o → (foot d p st.cs.length a ∨ ∃ r, o = .tup r) → H1 a = some o) : DkAt CD CC H1 d st p := by
  have lt : ∀ {i c}, st.cs[i]? = some c → i < st.cs.length := fun e => (List.getElem?_eq_some_iff.mp e).1
  refine ⟨?_, k _ _ h.con (.inl (.inr (.inl rfl))), k _ _ h.sur (.inl (.inr (.inr (.inl rfl)))), ?_, fun i c e => ?_, h.n1, h.n2, h.n3, h.n4⟩
  · obtain ⟨dx, e⟩ := h.inst
    exact ⟨dx, k _ _ e (.inl (.inl rfl))⟩
  · obtain ⟨xs, e, r⟩ := h.chs
    exact ⟨xs, k _ _ e (.inl (.inr (.inr (.inr (.inl rfl))))), r.keep fun a r e => k _ _ e (.inr ⟨r, rfl⟩)⟩
  · obtain ⟨dx, e1, e2⟩ := h.cts i c e
    exact ⟨dx, k _ _ e1 (.inl (.inr (.inr (.inr (.inr ⟨i, lt e, .inl rfl⟩))))), k _ _ e2 (.inl (.inr (.inr (.inr (.inr ⟨i, lt e, .inr rfl⟩)))))⟩
theorem DkAt.same (h : DkAt CD CC H d st p) (s : Same H H1) : DkAt CD CC H1 d st p := h.keep fun a o e _ => s a o e
theorem DkAt.inst' (h : DkAt CD CC H d st p) : ∃ dx, H d = some (.ins CD dx [("_contents", .ref p.kd), ("_sure_contents", .ref p.sd), ("_changes", .ref p.cl), ("_allowed", limV st.lim), ("_done", .int (st.done : Int))]) := h.inst
/-- the instance alone is written -/
theorem DkAt.fld (h : DkAt CD CC H d st p) {l : Option Nat} {n : Nat} {dx : Addr} (k : ∀ a o, H a = some o → a ≠ d → H1 a = some o) (e : H1 d = some (.ins CD dx (dfs p l n))) : DkAt CD CC H1 d { st with lim := l, done := n } p := by
  obtain ⟨dx0, e0⟩ := h.inst
  have nd : ∀ {a o}, H a = some o → (∀ C dx fs, o ≠ .ins C dx fs) → a ≠ d := fun ha ho => ne_of ha e0 (ho _ _ _)
  refine ⟨⟨dx, e⟩, k _ _ h.con (nd h.con fun _ _ _ z => nomatch z), k _ _ h.sur (nd h.sur fun _ _ _ z => nomatch z), ?_, fun i c hc => ?_, h.n1, h.n2, h.n3, h.n4⟩
  · obtain ⟨xs, e, r⟩ := h.chs
    exact ⟨xs, k _ _ e (nd e fun _ _ _ z => nomatch z), r.keep fun a r e => k _ _ e (nd e fun _ _ _ z => nomatch z)⟩
  · obtain ⟨dx1, e1, e2⟩ := h.cts i c hc
    exact ⟨dx1, k _ _ e1 (ne_of e1 e0 (by intro z; cases z)), k _ _ e2 (nd e2 fun _ _ _ z => nomatch z)⟩
end
def DS.tick (st : DS) : DS := { st with lim := st.lim.map (· - 1), done := st.done + 1 }
section
variable {P : Program} {w : World} {K : PySem.W.Frag} {mg : Str → Option Value} {base : Heap}
theorem cutab {xs : List V} (a b : Nat) : cutV xs (some (a : Int)) (some ((a : Int) + (b : Int))) = (xs.drop a).take b := by
  unfold cutV
  rw [show (a : Int) + (b : Int) = ((a + b : Nat) : Int) from by omega, show HT.sIx xs.length 0 (some (a : Int)) = min a xs.length from HT.sIx_nat _ _ a, show HT.sIx xs.length xs.length (some ((a + b : Nat) : Int)) = min (a + b) xs.length from HT.sIx_nat _ _ (a + b)]
  by_cases h : a ≤ xs.length
  · rw [Nat.min_eq_left h]
    by_cases g : a + b ≤ xs.length
    · rw [Nat.min_eq_left g, Nat.add_sub_cancel_left]
    · rw [Nat.min_eq_right (by omega), List.take_of_length_le (by rw [List.length_drop]; omega), List.take_of_length_le (by rw [List.length_drop]; omega)]
  · rw [Nat.min_eq_right (by omega), Nat.min_eq_right (by omega), List.drop_of_length_le (Nat.le_refl _), List.drop_of_length_le (by omega)]
    simp
def spNames (CD CC : Addr) : Sp := fun vs H Q _ => ∃ (d : Addr) (st : DS) (p : DP) (n : Nat), vs = [.ref d] ∧ DkAt CD CC H d st p ∧ TbOk n st.tab ∧
  ∀ H' q, Same H H' → H q = none → H' q = some (.lst ((srt (st.tab.map (·.1))).map V.str)) → Q (.ref q) H'
theorem scNames : FnScope ["self"] ["self"] (defScope sDiskNames) := ⟨rfl, rfl, rfl, by decide +kernel, rfl, by decide +kernel, by decide +kernel⟩
theorem ok_names {f fI CD CC : Addr} {fd : FuncData} (F : Fun K "names" "Disk.names" sDiskNames f fd) (N : Nm mg) (T : KC K CD fI CDf) : FnOk P w K mg base CX0 1 f fd ["self"] (spNames CD CC) := by
  refine F.ok scNames (fun vs H Q E h => ?_) (fun cdv A outer s H vs Q E hr h => ?_)
  · obtain ⟨d, st, p, n, rfl, _⟩ := h
    rfl
  · obtain ⟨d, st, p, n, rfl, hd, ht, q⟩ := h
    refine ⟨_, pss_one (ps_ret (pe_callB (call_sortedD rfl) (by rfl) N.sorted (by decide +kernel) (pa_cons (pe_fld (pv 0) rfl) pa_nil))), ?_⟩
    obtain ⟨dx, hi⟩ := hd.inst'
    refine ⟨_, rfl, d, CD, dx, _, .ref p.kd, rfl, hi, T.cl, T.na _ (by decide +kernel), rfl, p.kd, _, st.tab.map (·.1), rfl, Rd.of hd.con, mp_keys _ _, (by rw [List.length_map]; have := ht.len; omega), fun ys q1 pm sr nq => ?_⟩
    rw [ht.srt pm sr]
    exact q _ q1 (same_new nq) nq upd_same
def spSize (CD CC : Addr) : Sp := fun vs H Q _ => ∃ (d : Addr) (st : DS) (p : DP) (n : Str), vs = [.ref d, .str n] ∧ DkAt CD CC H d st p ∧ (tget st.tab n = none → Q .non H) ∧ ∀ i, tget st.tab n = some i → ∃ c, st.cs[i]? = some c ∧ Q (.int (c.o.length : Int)) H
theorem scSize : FnScope ["self", "name"] ["self", "name"] (defScope sDiskSize) := ⟨rfl, rfl, rfl, by decide +kernel, rfl, by decide +kernel, by decide +kernel⟩
theorem DkAt.get {CD CC : Addr} {H : Hp} {d : Addr} {st : DS} {p : DP} (h : DkAt CD CC H d st p) (n : Str) : DGet H p.kd (.str n) ((tget st.tab n).map fun i => V.ref (p.cas i)) := by
  have := DGet.k (k := (Sum.inr n : Key)) h.con
  rwa [mp_get] at this
theorem ok_size {f fI fC CD CC : Addr} {fd : FuncData} (F : Fun K "size" "Disk.size" sDiskSize f fd) (N : Nm mg) (T : KC K CD fI CDf) (TC : KC K CC fC CCf) : FnOk P w K mg base CX0 1 f fd ["self", "name"] (spSize CD CC) := by
  refine F.ok scSize (fun vs H Q E h => ?_) (fun cdv A outer s H vs Q E hr h => ?_)
  · obtain ⟨d, st, p, n, rfl, _⟩ := h
    rfl
  · obtain ⟨d, st, p, n, rfl, hd, q0, q⟩ := h
    have hu := hu_of hr
    refine ⟨_, pss_one (ps_ret (pe_ifExp (pt_cmp (pc_din hu (pv 1) (pe_fld (pv 0) rfl))) (pe_callB call_len_seq (by rfl) N.len PySem.boot_len (pa_cons (pe_fld (pe_dget hu (pe_fld (pv 0) rfl) (pv 1) (fun _ _ => rfl)) rfl) pa_nil)) pe_non)), ?_⟩
    obtain ⟨dx, hi⟩ := hd.inst'
    have hg := hd.get n
    refine ⟨_, rfl, _, rfl, d, CD, dx, _, .ref p.kd, rfl, hi, T.cl, T.na _ (by decide +kernel), rfl, p.kd, _, rfl, hg, _, rfl, ?_⟩
    cases e : tget st.tab n with
    | none => exact iteF (q0 e)
    | some i =>
      obtain ⟨c, hc, q⟩ := q i e
      obtain ⟨dx1, e1, e2⟩ := hd.cts i c hc
      rw [e] at hg
      refine iteT ⟨_, rfl, d, CD, dx, _, .ref p.kd, rfl, hi, T.cl, T.na _ (by decide +kernel), rfl, _, rfl, p.kd, .ref (p.cas i), rfl, hg, p.cas i, CC, dx1, _, .ref (p.las i), rfl, e1, TC.cl, TC.na _ (by decide +kernel), rfl, p.las i, _, rfl, .inl (.inl (.inl e2)), ?_⟩
      rw [List.length_map]
      exact q
def spRead (CD CC : Addr) : Sp := fun vs H Q _ => ∃ (d : Addr) (st : DS) (p : DP) (n : Str) (a b i : Nat) (c : Cn), vs = [.ref d, .str n, .int (a : Int), .int (b : Int)] ∧ DkAt CD CC H d st p ∧ tget st.tab n = some i ∧ st.cs[i]? = some c ∧
  ∀ H' q, Same H H' → H q = none → H' q = some (.lst (((c.o.drop a).take b).map V.int)) → Q (.ref q) H'
theorem scRead : FnScope ["self", "name", "start", "count"] ["self", "name", "start", "count"] (defScope sDiskRead) := ⟨rfl, rfl, rfl, by decide +kernel, rfl, by decide +kernel, by decide +kernel⟩
theorem ok_read {f fI fC CD CC : Addr} {fd : FuncData} (F : Fun K "read" "Disk.read" sDiskRead f fd) (T : KC K CD fI CDf) (TC : KC K CC fC CCf) : FnOk P w K mg base CX0 1 f fd ["self", "name", "start", "count"] (spRead CD CC) := by
  refine F.ok scRead (fun vs H Q E h => ?_) (fun cdv A outer s H vs Q E hr h => ?_)
  · obtain ⟨d, st, p, n, a, b, i, c, rfl, _⟩ := h
    rfl
  · obtain ⟨d, st, p, n, a, b, i, c, rfl, hd, ht, hc, q⟩ := h
    have hu := hu_of hr
    refine ⟨_, pss_one (ps_ret (pe_slice sl_list (pe_fld (pe_dget hu (pe_fld (pv 0) rfl) (pv 1) (fun _ _ => rfl)) rfl) (po_some (pv 2)) (po_some (pe_op op_add (pv 2) (pv 3))))), ?_⟩
    obtain ⟨dx, hi⟩ := hd.inst'
    have hg := hd.get n
    rw [ht] at hg
    obtain ⟨dx1, e1, e2⟩ := hd.cts i c hc
    refine ⟨_, rfl, d, CD, dx, _, .ref p.kd, rfl, hi, T.cl, T.na _ (by decide +kernel), rfl, _, rfl, p.kd, .ref (p.cas i), rfl, hg, p.cas i, CC, dx1, _, .ref (p.las i), rfl, e1, TC.cl, TC.na _ (by decide +kernel), rfl, ?_⟩
    refine ⟨_, rfl, _, rfl, _, rfl, _, rfl, _, _, rfl, rfl, _, rfl, p.las i, _, rfl, .inl (.inl e2), fun q1 nq => ?_⟩
    refine q _ q1 (same_new nq) nq ?_
    rw [upd_same, cutab, List.map_take, List.map_drop]
end
end K2

namespace K2
open PySem L2
/-! ### the deeds -/
structure Gd (st : DS) : Prop where
  T : TbOk st.cs.length st.tab
  S : TbOk st.cs.length st.sure
  C : ∀ c ∈ st.chg, CgOk st.cs.length c
  R : st.tab = run st.sure st.chg
  O : ∀ j c, st.chg[j]? = some c → okC (run st.sure (st.chg.take j)) c
def DS.setc (st : DS) (i : Nat) (c : Cn) : DS := { st with cs := st.cs.set i c }
def DS.addc (st : DS) : DS := { st with cs := st.cs ++ [⟨[], 0⟩] }
def DS.chgd (st : DS) (c : Cg) : DS := { st with tab := mv st.tab c, chg := st.chg ++ [c] }
def DP.add (p : DP) (n : Nat) (x l : Addr) : DP := { p with cas := fun j => if j = n then x else p.cas j, las := fun j => if j = n then l else p.las j }
theorem mp_congr {g h : Nat → V} {t : Tb} {n : Nat} (ht : TbOk n t) (e : ∀ i, i < n → g i = h i) : mp g t = mp h t := by
  unfold mp
  refine List.map_congr_left fun p hp => ?_
  rw [e _ (ht.ix p hp)]
theorem ctup_congr {a b : Nat → Addr} {c : Cg} {n : Nat} (hc : CgOk n c) (e : ∀ i, i < n → a i = b i) : ctup a c = ctup b c := by
  cases c with
  | make m i => show [_, _, V.ref (a i)] = [_, _, V.ref (b i)]; rw [e i hc.2]
  | ren x y i => show [_, _, V.ref (a i)] = [_, _, V.ref (b i)]; rw [e i hc.2]
  | rem x => rfl
theorem Gd.setc {st : DS} (h : Gd st) (i : Nat) (c : Cn) : Gd (st.setc i c) := by
  have e : (st.setc i c).cs.length = st.cs.length := List.length_set
  exact ⟨by rw [e]; exact h.T, by rw [e]; exact h.S, by rw [e]; exact h.C, h.R, h.O⟩
theorem Gd.addc {st : DS} (h : Gd st) : Gd st.addc := by
  have e : st.cs.length ≤ st.addc.cs.length := by
    show _ ≤ (st.cs ++ [_]).length
    rw [List.length_append]; omega
  exact ⟨h.T.mono e, h.S.mono e, fun c hc => (h.C c hc).mono e, h.R, h.O⟩
theorem Gd.tick {st : DS} (h : Gd st) : Gd st.tick := ⟨h.T, h.S, h.C, h.R, h.O⟩
theorem Gd.lim {st : DS} (h : Gd st) (l : Option Nat) : Gd { st with lim := l } := ⟨h.T, h.S, h.C, h.R, h.O⟩
theorem Gd.chgd {st : DS} (h : Gd st) {c : Cg} (ok : okC st.tab c) (hc : CgOk st.cs.length c) : Gd (st.chgd c) := by
  refine ⟨h.T.mv hc, h.S, fun x hx => ?_, ?_, fun j x hx => ?_⟩
  · rcases List.mem_append.mp hx with z | z
    · exact h.C x z
    · rw [List.mem_singleton.mp z]; exact hc
  · show mv st.tab c = run st.sure (st.chg ++ [c])
    rw [run_snoc, ← h.R]
  · have hx : (st.chg ++ [c])[j]? = some x := hx
    show okC (run st.sure ((st.chg ++ [c]).take j)) x
    rcases Nat.lt_trichotomy j st.chg.length with hj | hj | hj
    · rw [List.getElem?_append_left hj] at hx
      rw [List.take_append_of_le_length (Nat.le_of_lt hj)]
      exact h.O j x hx
    · subst hj
      rw [List.getElem?_append_right (Nat.le_refl _), Nat.sub_self] at hx
      obtain rfl := Option.some.inj hx
      rw [List.take_append_of_le_length (Nat.le_refl _), List.take_length, ← h.R]
      exact ok
    · rw [List.getElem?_eq_none (by rw [List.length_append]; show st.chg.length + 1 ≤ j; omega)] at hx
      cases hx
theorem Gd.sync {st : DS} (h : Gd st) : Gd { st with sure := st.tab, chg := [] } :=
  ⟨h.T, h.T, fun c hc => absurd hc List.not_mem_nil, rfl, fun j c e => by simp at e⟩
section
variable {CD CC : Addr} {H H1 : Hp} {d : Addr} {st : DS} {p : DP}
theorem DkAt.setO (h : DkAt CD CC H d st p) {i : Nat} {c : Cn} {o : List Int} (hc : st.cs[i]? = some c) (k : ∀ a u, H a = some u → a ≠ p.las i → H1 a = some u) (e : H1 (p.las i) = some (.lst (o.map V.int))) : DkAt CD CC H1 d (st.setc i ⟨o, c.s⟩) p := by
  have hil : i < st.cs.length := (List.getElem?_eq_some_iff.mp hc).1
  obtain ⟨dxi, c1, c2⟩ := h.cts i c hc
  have nl : ∀ {a u}, H a = some u → (∀ xs, u ≠ .lst xs) → a ≠ p.las i := fun ha hu => ne_of ha c2 (hu _)
  have el : (st.setc i ⟨o, c.s⟩).cs.length = st.cs.length := List.length_set
  refine ⟨?_, k _ _ h.con (nl h.con fun _ z => nomatch z), k _ _ h.sur (nl h.sur fun _ z => nomatch z), ?_, fun j x hx => ?_, h.n1, fun j hj => h.n2 j (by rw [← el]; exact hj), fun a b ha hb => h.n3 a b (by rw [← el]; exact ha) (by rw [← el]; exact hb), fun a b ha hb => h.n4 a b (by rw [← el]; exact ha) (by rw [← el]; exact hb)⟩
  · obtain ⟨dx, e0⟩ := h.inst
    exact ⟨dx, k _ _ e0 (nl e0 fun _ z => nomatch z)⟩
  · obtain ⟨xs, e0, r⟩ := h.chs
    exact ⟨xs, k _ _ e0 (h.n2 i hil).symm, r.keep fun a r e => k _ _ e (nl e fun _ z => nomatch z)⟩
  · have hx : (st.cs.set i ⟨o, c.s⟩)[j]? = some x := hx
    rw [List.getElem?_set] at hx
    by_cases hij : i = j
    · subst hij
      rw [if_pos rfl, if_pos hil] at hx
      obtain rfl := Option.some.inj hx
      exact ⟨dxi, k _ _ c1 (nl c1 fun _ z => nomatch z), e⟩
    · rw [if_neg hij] at hx
      obtain ⟨dxj, d1, d2⟩ := h.cts j x hx
      have hjl : j < st.cs.length := (List.getElem?_eq_some_iff.mp hx).1
      exact ⟨dxj, k _ _ d1 (nl d1 fun _ z => nomatch z), k _ _ d2 fun z => hij (h.n3 j i hjl hil z).symm⟩
theorem DkAt.setS (h : DkAt CD CC H d st p) {i s : Nat} {c : Cn} {dx1 : Addr} (hc : st.cs[i]? = some c) (k : ∀ a u, H a = some u → a ≠ p.cas i → H1 a = some u) (e : H1 (p.cas i) = some (.ins CC dx1 [("octets", .ref (p.las i)), ("sure", .int (s : Int))])) : DkAt CD CC H1 d (st.setc i ⟨c.o, s⟩) p := by
  have hil : i < st.cs.length := (List.getElem?_eq_some_iff.mp hc).1
  obtain ⟨dxi, c1, c2⟩ := h.cts i c hc
  have nl : ∀ {a u}, H a = some u → (∀ C dx fs, u ≠ .ins C dx fs) → a ≠ p.cas i := fun ha hu => ne_of ha c1 (hu _ _ _)
  have el : (st.setc i ⟨c.o, s⟩).cs.length = st.cs.length := List.length_set
  refine ⟨?_, k _ _ h.con (nl h.con fun _ _ _ z => nomatch z), k _ _ h.sur (nl h.sur fun _ _ _ z => nomatch z), ?_, fun j x hx => ?_, h.n1, fun j hj => h.n2 j (by rw [← el]; exact hj), fun a b ha hb => h.n3 a b (by rw [← el]; exact ha) (by rw [← el]; exact hb), fun a b ha hb => h.n4 a b (by rw [← el]; exact ha) (by rw [← el]; exact hb)⟩
  · obtain ⟨dx, e0⟩ := h.inst
    exact ⟨dx, k _ _ e0 (ne_of e0 c1 (by intro z; cases z))⟩
  · obtain ⟨xs, e0, r⟩ := h.chs
    exact ⟨xs, k _ _ e0 (nl e0 fun _ _ _ z => nomatch z), r.keep fun a r e => k _ _ e (nl e fun _ _ _ z => nomatch z)⟩
  · have hx : (st.cs.set i ⟨c.o, s⟩)[j]? = some x := hx
    rw [List.getElem?_set] at hx
    by_cases hij : i = j
    · subst hij
      rw [if_pos rfl, if_pos hil] at hx
      obtain rfl := Option.some.inj hx
      exact ⟨dx1, e, k _ _ c2 (nl c2 fun _ _ _ z => nomatch z)⟩
    · rw [if_neg hij] at hx
      obtain ⟨dxj, d1, d2⟩ := h.cts j x hx
      have hjl : j < st.cs.length := (List.getElem?_eq_some_iff.mp hx).1
      exact ⟨dxj, k _ _ d1 fun z => hij (h.n4 j i hjl hil z).symm, k _ _ d2 (nl d2 fun _ _ _ z => nomatch z)⟩
theorem DkAt.addc (h : DkAt CD CC H d st p) (g : Gd st) {x l dxc : Addr} (hx : H x = some (.ins CC dxc [("octets", .ref l), ("sure", .int 0)])) (hl : H l = some (.lst [])) (fx : ¬ foot d p st.cs.length x) (fl : ¬ foot d p st.cs.length l) : DkAt CD CC H d st.addc (p.add st.cs.length x l) := by
  have cas : ∀ i, i < st.cs.length → (p.add st.cs.length x l).cas i = p.cas i := fun i hi => if_neg (Nat.ne_of_lt hi)
  have las : ∀ i, i < st.cs.length → (p.add st.cs.length x l).las i = p.las i := fun i hi => if_neg (Nat.ne_of_lt hi)
  have cn : (p.add st.cs.length x l).cas st.cs.length = x := if_pos rfl
  have ln : (p.add st.cs.length x l).las st.cs.length = l := if_pos rfl
  have el : st.addc.cs.length = st.cs.length + 1 := by
    show (st.cs ++ [_]).length = _
    rw [List.length_append]; rfl
  refine ⟨h.inst, ?_, ?_, ?_, fun j c hc => ?_, h.n1, fun j hj => ?_, fun i j hi hj e => ?_, fun i j hi hj e => ?_⟩
  · show H p.kd = some (.dK (mp _ st.tab))
    rw [mp_congr (g := fun i => V.ref ((p.add st.cs.length x l).cas i)) (h := fun i => V.ref (p.cas i)) g.T fun i hi => by show V.ref _ = V.ref _; rw [cas i hi]]
    exact h.con
  · show H p.sd = some (.dK (mp _ st.sure))
    rw [mp_congr (g := fun i => V.ref ((p.add st.cs.length x l).cas i)) (h := fun i => V.ref (p.cas i)) g.S fun i hi => by show V.ref _ = V.ref _; rw [cas i hi]]
    exact h.sur
  · obtain ⟨xs, e, r⟩ := h.chs
    refine ⟨xs, e, ?_⟩
    rw [show st.addc.chg.map (ctup (p.add st.cs.length x l).cas) = st.chg.map (ctup p.cas) from List.map_congr_left fun c hc => ctup_congr (g.C c hc) cas]
    exact r
  · have hc : (st.cs ++ [⟨[], 0⟩])[j]? = some c := hc
    rcases Nat.lt_trichotomy j st.cs.length with hj | hj | hj
    · rw [List.getElem?_append_left hj] at hc
      rw [cas j hj, las j hj]
      exact h.cts j c hc
    · subst hj
      rw [List.getElem?_append_right (Nat.le_refl _), Nat.sub_self] at hc
      obtain rfl := Option.some.inj hc
      rw [cn, ln]
      exact ⟨dxc, hx, hl⟩
    · rw [List.getElem?_eq_none (by rw [List.length_append]; show st.cs.length + 1 ≤ j; omega)] at hc
      cases hc
  · rw [el] at hj
    rcases Nat.lt_succ_iff_lt_or_eq.mp hj with q | q
    · rw [las j q]; exact h.n2 j q
    · rw [q, ln]
      intro z
      exact fl (.inr (.inr (.inr (.inl z))))
  · rw [el] at hi hj
    rcases Nat.lt_succ_iff_lt_or_eq.mp hi with a | a <;> rcases Nat.lt_succ_iff_lt_or_eq.mp hj with b | b
    · rw [las i a, las j b] at e; exact h.n3 i j a b e
    · rw [las i a, b, ln] at e
      exact absurd (.inr (.inr (.inr (.inr ⟨i, a, .inr e.symm⟩)))) fl
    · rw [las j b, a, ln] at e
      exact absurd (.inr (.inr (.inr (.inr ⟨j, b, .inr e⟩)))) fl
    · omega
  · rw [el] at hi hj
    rcases Nat.lt_succ_iff_lt_or_eq.mp hi with a | a <;> rcases Nat.lt_succ_iff_lt_or_eq.mp hj with b | b
    · rw [cas i a, cas j b] at e; exact h.n4 i j a b e
    · rw [cas i a, b, cn] at e
      exact absurd (.inr (.inr (.inr (.inr ⟨i, a, .inl e.symm⟩)))) fx
    · rw [cas j b, a, cn] at e
      exact absurd (.inr (.inr (.inr (.inr ⟨j, b, .inl e⟩)))) fx
    · omega
theorem DkAt.chgd (h : DkAt CD CC H d st p) {c : Cg} {xs : List V} {t : Addr} (k : ∀ a u, H a = some u → a ≠ p.kd → a ≠ p.cl → H1 a = some u) (hk : H1 p.kd = some (.dK (mp (fun i => .ref (p.cas i)) (mv st.tab c))))
    (hr : Rows H xs (st.chg.map (ctup p.cas))) (hc : H1 p.cl = some (.lst (xs ++ [.ref t]))) (ht : H1 t = some (.tup (ctup p.cas c))) : DkAt CD CC H1 d (st.chgd c) p := by
  obtain ⟨xs0, e0, _⟩ := h.chs
  have nk : ∀ {a u}, H a = some u → (∀ z, u ≠ .dK z) → a ≠ p.kd := fun ha hu => ne_of ha h.con (hu _)
  have nl : ∀ {a u}, H a = some u → (∀ z, u ≠ .lst z) → a ≠ p.cl := fun ha hu => ne_of ha e0 (hu _)
  refine ⟨?_, hk, k _ _ h.sur h.n1.symm (nl h.sur fun _ z => nomatch z), ?_, fun i c0 h0 => ?_, h.n1, h.n2, h.n3, h.n4⟩
  · obtain ⟨dx, e⟩ := h.inst
    exact ⟨dx, k _ _ e (nk e fun _ z => nomatch z) (nl e fun _ z => nomatch z)⟩
  · refine ⟨_, hc, ?_⟩
    show Rows H1 _ ((st.chg ++ [c]).map (ctup p.cas))
    rw [List.map_append]
    exact (hr.keep fun a r e => k _ _ e (nk e fun _ z => nomatch z) (nl e fun _ z => nomatch z)).push ht
  · obtain ⟨dx, c1, c2⟩ := h.cts i c0 h0
    exact ⟨dx, k _ _ c1 (nk c1 fun _ z => nomatch z) (nl c1 fun _ z => nomatch z), k _ _ c2 (nk c2 fun _ z => nomatch z) (h.n2 i (List.getElem?_eq_some_iff.mp h0).1)⟩
end
section
variable {P : Program} {w : World} {K : PySem.W.Frag} {mg : Str → Option Value} {base : Heap}
def spBegin (CD CC CE : Addr) : Sp := fun vs H Q E => ∃ (d : Addr) (st : DS) (p : DP), vs = [.ref d] ∧ DkAt CD CC H d st p ∧ (st.lim ≠ some 0 → ∀ H', (∀ a o, H a = some o → a ≠ d → H' a = some o) → DkAt CD CC H' d st.tick p → Q .non H') ∧
  (st.lim = some 0 → ∀ H' x, Same H H' → H x = none → H' x = some (errD st.done) → E (.ref CE) (some x) H')
theorem scBegin : FnScope ["self"] ["self"] (defScope sDiskBeginDeed) := ⟨rfl, rfl, rfl, by decide +kernel, rfl, by decide +kernel, by decide +kernel⟩
theorem ok_begin {f fI fE CD CC CE : Addr} {fd fdE : FuncData} (F : Fun K "_begin_deed" "Disk._begin_deed" sDiskBeginDeed f fd) (T : KC K CD fI CDf) (FE : Fun K "__init__" "ManysidesError.__init__" sInit fE fdE) (bE : Binds K fdE ["self", "place"] []) (E0 : ErrC K CE fE "PowerLost") (gE : mg "PowerLost" = some (.ref CE)) :
    FnOk P w K mg base (L2.CX P w) 3 f fd ["self"] (spBegin CD CC CE) := by
  have GE : FnOk P w K mg base CX0 1 fE fdE ["self", "place"] (spInit K fE) := ok_init FE
  refine F.okX scBegin (fun vs H Q E h => ?_) (fun cdv A outer s H vs Q E hr h => ?_)
  · obtain ⟨d, st, p, rfl, _⟩ := h
    rfl
  · obtain ⟨d, st, p, rfl, hd, q, qe⟩ := h
    have hr1 := hr.mono (j := 2) (by decide)
    obtain ⟨dx, hi⟩ := hd.inst'
    refine ⟨_, pss_cons (ps_if (pt_cmpR op_eq (pe_fld (pv 0) rfl) pe_int (nomark _)) (pss_one (ps_raise rfl (takes_of rfl rfl rfl rfl) (pmk_oex E0.oc E0.iC E0.tI GE hr1 bE .nil pass0 (by rfl) gE (pa_cons (pe_fld (pv 0) rfl) pa_nil)))) pss_nil)
      (Evl.pss_cut (ps_if (pt_cmpR op_notN (pe_fld (pv 0) rfl) pe_non (nomark _)) (pss_one (ps_fldaug (pv 0) pe_int in_sub)) pss_nil)
      (pss_one (ps_fldaug (pv 0) pe_int in_add))), ?_⟩
    refine ⟨_, rfl, d, CD, dx, _, limV st.lim, rfl, hi, T.cl, T.na _ (by decide +kernel), rfl, ?_⟩
    cases hlim : st.lim with
    | none =>
      rw [hlim] at hi
      refine ⟨rfl, _, rfl, iteF ⟨fun σ H1 => σ = [some (.ref d)] ∧ H1 = H, ?_, ?_⟩⟩
      · exact ⟨_, rfl, d, CD, dx, _, .non, rfl, hi, T.cl, T.na _ (by decide +kernel), rfl, rfl, _, rfl, iteF ⟨rfl, rfl⟩⟩
      · rintro σ H1 ⟨rfl, rfl⟩
        refine ⟨_, rfl, d, CD, dx, _, .int (st.done : Int), rfl, hi, T.cl, T.na _ (by decide +kernel), rfl, (st.done : Int), 1, rfl, rfl, dx, _, hi, (by show 5 < 1000; decide), ?_⟩
        refine q (by rw [hlim]; exact fun z => nomatch z) _ (fun a o h n => by rw [upd_ne n]; exact h) ?_
        have := hd.fld (l := none) (n := st.done + 1) (dx := dx) (H1 := upd H1 d (.ins CD dx (dfs p none (st.done + 1)))) (fun a o h n => by rw [upd_ne n]; exact h) upd_same
        unfold DS.tick
        rw [hlim]
        exact this
    | some n =>
      rw [hlim] at hi
      cases n with
      | zero =>
        refine ⟨rfl, _, rfl, iteT ?_⟩
        refine ⟨_, rfl, d, CD, dx, _, .int (st.done : Int), rfl, hi, T.cl, T.na _ (by decide +kernel), rfl, (by show 1 ≤ 1000; decide), fun e0 ne => ⟨e0, CE, "PowerLost", _, rfl, E0, upd_same, fun dy ndx nde => ⟨rfl, dy, [("name", .str "PowerLost"), ("place", .int (st.done : Int))], ?_, upd_same, ?_, ?_⟩⟩⟩
        · rw [upd_ne nde.symm, upd_same]
        · rw [upd_ne nde] at ndx
          exact ndx
        · rw [upd_ne nde] at ndx
          exact qe hlim _ dy (same_err (Same.refl H) ne ndx) ndx upd_same
      | succ n =>
        refine ⟨rfl, _, rfl, iteBF (decide_eq_false fun z => by have := V.int.inj z; omega) ⟨fun σ H1 => σ = [some (.ref d)] ∧ H1 = upd H d (.ins CD dx (dfs p (some n) st.done)), ?_, ?_⟩⟩
        · refine ⟨_, rfl, d, CD, dx, _, .int ((n + 1 : Nat) : Int), rfl, hi, T.cl, T.na _ (by decide +kernel), rfl, rfl, _, rfl, iteT ?_⟩
          refine ⟨_, rfl, d, CD, dx, _, .int ((n + 1 : Nat) : Int), rfl, hi, T.cl, T.na _ (by decide +kernel), rfl, ((n + 1 : Nat) : Int), 1, rfl, rfl, dx, _, hi, (by show 5 < 1000; decide), rfl, ?_⟩
          rw [show (((n + 1 : Nat) : Int) - 1) = (n : Int) from by omega]
          rfl
        · rintro σ H1 ⟨rfl, rfl⟩
          have hi2 : (upd H d (.ins CD dx (dfs p (some n) st.done))) d = some (.ins CD dx [("_contents", .ref p.kd), ("_sure_contents", .ref p.sd), ("_changes", .ref p.cl), ("_allowed", limV (some n)), ("_done", .int (st.done : Int))]) := upd_same
          refine ⟨_, rfl, d, CD, dx, _, .int (st.done : Int), rfl, hi2, T.cl, T.na _ (by decide +kernel), rfl, (st.done : Int), 1, rfl, rfl, dx, _, hi2, (by show 5 < 1000; decide), ?_⟩
          refine q (by rw [hlim]; exact fun z => by injection z with z; exact absurd z (Nat.succ_ne_zero n)) _ (fun a o h m => by rw [upd_ne m, upd_ne m]; exact h) ?_
          have := hd.fld (l := some n) (n := st.done + 1) (dx := dx) (H1 := upd (upd H d (.ins CD dx (dfs p (some n) st.done))) d (.ins CD dx (dfs p (some n) (st.done + 1)))) (fun a o h m => by rw [upd_ne m, upd_ne m]; exact h) upd_same
          unfold DS.tick
          rw [hlim]
          exact this
end
end K2

namespace K2
open PySem L2
theorem tget_put (t : Tb) (n : Str) (i : Nat) : tget (tput t n i) n = some i := by
  have h1 := mp_get (fun i => V.int (i : Int)) (tput t n i) n
  rw [← mp_put (fun i => V.int (i : Int)) t n i, valV_put, if_pos rfl] at h1
  cases e : tget (tput t n i) n with
  | none => rw [e] at h1; cases h1
  | some j =>
    rw [e] at h1
    have := V.int.inj (Option.some.inj h1)
    rw [show i = j by omega]
theorem foot_add {d x l a : Addr} {p : DP} {n : Nat} (h : foot d (p.add n x l) (n + 1) a) : foot d p n a ∨ a = x ∨ a = l := by
  rcases h with h | h | h | h | ⟨i, hi, h⟩
  · exact .inl (.inl h)
  · exact .inl (.inr (.inl h))
  · exact .inl (.inr (.inr (.inl h)))
  · exact .inl (.inr (.inr (.inr (.inl h))))
  · rcases Nat.lt_succ_iff_lt_or_eq.mp hi with g | g
    · have e1 : (p.add n x l).cas i = p.cas i := if_neg (Nat.ne_of_lt g)
      have e2 : (p.add n x l).las i = p.las i := if_neg (Nat.ne_of_lt g)
      rw [e1, e2] at h
      exact .inl (.inr (.inr (.inr (.inr ⟨i, g, h⟩))))
    · have e1 : (p.add n x l).cas i = x := if_pos g
      have e2 : (p.add n x l).las i = l := if_pos g
      rw [e1, e2] at h
      exact .inr h
def DS.app (st : DS) (n : Str) (os : List Int) : DS := match tget st.tab n with
  | none => (st.addc.chgd (.make n st.cs.length)).setc st.cs.length ⟨os, 0⟩
  | some i => match st.cs[i]? with
    | some c => st.setc i ⟨c.o ++ os, c.s⟩
    | none => st
theorem out_d {H H1 : Hp} {d : Addr} {p : DP} {n : Nat} (k : ∀ a o, H a = some o → a ≠ d → H1 a = some o) : Out (foot d p n) H H1 := fun c o h nf => k c o h fun z => nf (.inl z)
theorem setc_len (st : DS) (i : Nat) (c : Cn) : (st.setc i c).cs.length = st.cs.length := List.length_set
section
variable {P : Program} {w : World} {K : PySem.W.Frag} {mg : Str → Option Value} {base : Heap}
def spChange (CD CC : Addr) : Sp := fun vs H Q _ => ∃ (d : Addr) (st : DS) (p : DP) (c : Cg), vs = .ref d :: ctup p.cas c ∧ DkAt CD CC H d st p ∧ okC st.tab c ∧ st.tab.length ≤ 1000 ∧ st.chg.length ≤ 1000 ∧
  ∀ H', (∀ a o, H a = some o → a ≠ p.kd → a ≠ p.cl → H' a = some o) → DkAt CD CC H' d (st.chgd c) p → Q .non H'
theorem scChange : FnScope ["self", "old", "new", "content"] ["self", "old", "new", "content"] (defScope sDiskChange) := ⟨rfl, rfl, rfl, by decide +kernel, rfl, by decide +kernel, by decide +kernel⟩
theorem ctup3 (cas : Nat → Addr) (c : Cg) : ∃ x y z, ctup cas c = [x, y, z] := by
  cases c with
  | make n i => exact ⟨_, _, _, rfl⟩
  | ren a b i => exact ⟨_, _, _, rfl⟩
  | rem a => exact ⟨_, _, _, rfl⟩
theorem ok_change {f fI fC CD CC : Addr} {fd fdC : FuncData} (F : Fun K "_change" "Disk._change" sDiskChange f fd) (T : KC K CD fI CDf) (FC : Fun K "change_names" "change_names" sChangeNames fC fdC) (bC : Binds K fdC ["contents", "change"] []) (gC : mg "change_names" = some (.ref fC)) :
    FnOk P w K mg base CX0 2 f fd ["self", "old", "new", "content"] (spChange CD CC) := by
  have GC : FnOk P w K mg base CX0 1 fC fdC ["contents", "change"] spCN := ok_cn FC
  refine F.ok scChange (fun vs H Q E h => ?_) (fun cdv A outer s H vs Q E hr h => ?_)
  · obtain ⟨d, st, p, c, rfl, _⟩ := h
    obtain ⟨x, y, z, e⟩ := ctup3 p.cas c
    rw [e]
    rfl
  · obtain ⟨d, st, p, c, rfl, hd, ok, ht, hcl, q⟩ := h
    obtain ⟨x, y, z, e⟩ := ctup3 p.cas c
    rw [e]
    refine ⟨_, pss_cons (ps_expr (pe_bm PySem.F.plainAttrs_list PySem.F.slot_list_append PySem.F.type_list_append mt_append (pe_fld (pv 0) rfl) (pa_cons (pe_tup (pa_cons (pv 1) (pa_cons (pv 2) (pa_cons (pv 3) pa_nil)))) pa_nil)))
      (pss_one (ps_expr (pe_call GC hr (by rfl) gC FC.kp bC .nil pass0 (pa_cons (pe_fld (pv 0) rfl) (pa_cons (pe_tup (pa_cons (pv 1) (pa_cons (pv 2) (pa_cons (pv 3) pa_nil)))) pa_nil))))), ?_⟩
    obtain ⟨dx, hi⟩ := hd.inst'
    obtain ⟨xs, hx, hrow⟩ := hd.chs
    refine ⟨_, rfl, d, CD, dx, _, .ref p.cl, rfl, hi, T.cl, T.na _ (by decide +kernel), rfl, .inl ⟨rfl, _, .inl (.inl hx)⟩, _, rfl, _, rfl, _, rfl, (by show 3 ≤ sizeLine; decide), fun t nt => ?_⟩
    have ncl : p.cl ≠ t := ne_of_none hx nt
    refine ⟨p.cl, xs, _, rfl, rfl, by rw [upd_ne ncl]; exact hx, ?_, ?_⟩
    · have := hrow.1
      rw [List.length_map] at this
      exact small1000 (by omega)
    · have hxd : d ≠ p.cl := ne_of hi hx (by intro z; cases z)
      have hkc : p.kd ≠ p.cl := ne_of hd.con hx (by intro z; cases z)
      have hkt : p.kd ≠ t := ne_of_none hd.con nt
      refine ⟨_, rfl, d, CD, dx, _, .ref p.kd, rfl, by rw [upd_ne hxd, upd_ne (ne_of_none hi nt)]; exact hi, T.cl, T.na _ (by decide +kernel), rfl, _, rfl, _, rfl, _, rfl, (by show 3 ≤ sizeLine; decide), fun t2 nt2 => ?_⟩
      have nt3 : t2 ≠ p.cl := fun z => by rw [z, upd_same] at nt2; cases nt2
      have nt4 : t2 ≠ t := fun z => by rw [z, upd_ne ncl.symm, upd_same] at nt2; cases nt2
      have nt5 : H t2 = none := by
        rw [upd_ne nt3, upd_ne nt4] at nt2
        exact nt2
      have hkt2 : p.kd ≠ t2 := ne_of_none hd.con nt5
      refine ⟨p.kd, t2, p.cas, st.tab, c, rfl, by rw [upd_same, e], by rw [upd_ne hkt2, upd_ne hkc, upd_ne hkt]; exact hd.con, ok, ht, fun H2 k hk => ?_⟩
      have k2 : ∀ a o, H a = some o → a ≠ p.kd → a ≠ p.cl → H2 a = some o := fun a o h n1 n2 => k a o (by rw [upd_ne (ne_of_none h nt5), upd_ne n2, upd_ne (ne_of_none h nt)]; exact h) n1
      refine q H2 k2 (hd.chgd (t := t) k2 hk hrow (k _ _ (by rw [upd_ne nt3.symm, upd_same]) hkc.symm) ?_)
      rw [e]
      exact k _ _ (by rw [upd_ne nt4.symm, upd_ne ncl.symm, upd_same]) hkt.symm
/-! append -/
def spAppend (CD CC CE : Addr) : Sp := fun vs H Q E => ∃ (d l : Addr) (st : DS) (p : DP) (n : Str) (os : List Int), vs = [.ref d, .str n, .ref l] ∧ DkAt CD CC H d st p ∧ Gd st ∧ H l = some (.lst (os.map V.int)) ∧ ¬ foot d p st.cs.length l ∧ n ∈ NM ∧ (∀ c ∈ st.cs, c.o.length ≤ 900000) ∧ os.length ≤ 900000 ∧ st.chg.length ≤ 900 ∧
  (st.lim ≠ some 0 → ∀ H' p', Out (foot d p st.cs.length) H H' → Gw (foot d p st.cs.length) (foot d p' (st.tick.app n os).cs.length) H → DkAt CD CC H' d (st.tick.app n os) p' → Gd (st.tick.app n os) → Q .non H') ∧
  (st.lim = some 0 → ∀ H' x, Same H H' → H x = none → H' x = some (errD st.done) → E (.ref CE) (some x) H')
theorem scAppend : FnScope ["self", "name", "octets"] ["self", "name", "octets"] (defScope sDiskAppend) := ⟨rfl, rfl, rfl, by decide +kernel, rfl, by decide +kernel, by decide +kernel⟩
theorem ok_append {f fI fC fB fG CD CC CE : Addr} {fd fdC fdB fdG : FuncData} (F : Fun K "append" "Disk.append" sDiskAppend f fd) (N : Nm mg) (T : KC K CD fI CDf) (TC : KC K CC fC CCf) (FC : Fun K "__init__" "Content.__init__" sContentInit fC fdC) (bC : Binds K fdC ["self", "octets"] []) (gCC : mg "Content" = some (.ref CC))
    (GB : FnOk P w K mg base (L2.CX P w) 3 fB fdB ["self"] (spBegin CD CC CE)) (bB : Binds K fdB ["self"] []) (mB : Meth K CD "_begin_deed" fB) (GG : FnOk P w K mg base CX0 2 fG fdG ["self", "old", "new", "content"] (spChange CD CC)) (bG : Binds K fdG ["self", "old", "new", "content"] []) (mG : Meth K CD "_change" fG) :
    FnOk P w K mg base (L2.CX P w) 4 f fd ["self", "name", "octets"] (spAppend CD CC CE) := by
  have GCI : FnOk P w K mg base CX0 1 fC fdC ["self", "octets"] (spCInit CC) := ok_cInit FC N TC
  have GB' : FnOk P w K mg base (L2.CX P w) 3 fB fdB ["self"] (spBegin CD CC CE) := GB
  refine F.okX scAppend (fun vs H Q E h => ?_) (fun cdv A outer s H vs Q E hr h => ?_)
  · obtain ⟨d, l, st, p, n, os, rfl, _⟩ := h
    rfl
  · obtain ⟨d, l, st, p, n, os, rfl, hd, gd, hl, nfl, hn, hco, hos, hch, q, qe⟩ := h
    have hr2 := hr.mono (j := 2) (by decide)
    have hu := hu_of hr
    refine ⟨_, pss_cons (ps_expr (pe_methX0 (pv 0) T.cl mB GB' hr bB (fun σ => passAt (takes_of rfl rfl rfl rfl) σ)))
      (Evl.pss_cut (ps_if (pt_cmp (pc_dnotin hu (pv 1) (pe_fld (pv 0) rfl))) (pss_one (ps_expr (pe_meth (pv 0) T.cl mG GG hr2 bG .nil pass0 (pa_cons pe_non (pa_cons (pv 1) (pa_cons (pe_make TC.mkC GCI hr2 (by rfl) gCC bC .nil pass0 (pa_cons (pe_lst pa_nil) pa_nil)) pa_nil)))))) pss_nil)
      (pss_one (ps_expr (pe_bm PySem.F.plainAttrs_list PySem.F.slot_list_extend PySem.F.type_list_extend mt_extend (pe_fld (pe_dget hu (pe_fld (pv 0) rfl) (pv 1) (fun _ _ => rfl)) rfl) (pa_cons (pe_callTy call_list_of (by rfl) N.list (by decide +kernel) (pa_cons (pv 2) pa_nil)) pa_nil))))), ?_⟩
    obtain ⟨dx, hi⟩ := hd.inst'
    refine ⟨_, rfl, d, dx, _, rfl, hi, rfl, d, st, p, rfl, hd, fun hlim H1 k1 hd1 => ?_, fun hlim H1 x s1 nx hx => qe hlim H1 x s1 nx hx⟩
    have o1 : Out (foot d p st.cs.length) H H1 := out_d k1
    have gt : Gd st.tick := gd.tick
    have hl1 : H1 l = some (.lst (os.map V.int)) := o1 _ _ hl nfl
    refine ⟨fun σ H4 => σ = [some (.ref d), some (.str n), some (.ref l)] ∧ ∃ (p' : DP) (st' : DS) (i : Nat) (c : Cn), DkAt CD CC H4 d st' p' ∧ Gd st' ∧ tget st'.tab n = some i ∧ st'.cs[i]? = some c ∧ st'.setc i ⟨c.o ++ os, c.s⟩ = st.tick.app n os ∧
      Out (foot d p st.cs.length) H H4 ∧ Gw (foot d p st.cs.length) (foot d p' st'.cs.length) H ∧ H4 l = some (.lst (os.map V.int)) ∧ c.o.length ≤ 900000, ?_, ?_⟩
    · obtain ⟨dx1, hi1⟩ := hd1.inst'
      have hg := hd1.get n
      refine ⟨_, rfl, _, rfl, d, CD, dx1, _, .ref p.kd, rfl, hi1, T.cl, T.na _ (by decide +kernel), rfl, p.kd, _, rfl, hg, _, rfl, ?_⟩
      cases e : tget st.tick.tab n with
      | some i =>
        have hil : i < st.cs.length := gd.T.ix _ (tget_mem e)
        refine iteF ⟨rfl, p, st.tick, i, st.cs[i], hd1, gt, e, List.getElem?_eq_getElem hil, ?_, o1, Gw.refl, hl1, hco _ (List.getElem_mem hil)⟩
        unfold DS.app
        rw [e]
        show _ = match st.cs[i]? with | some c => st.tick.setc i ⟨c.o ++ os, c.s⟩ | none => st.tick
        rw [List.getElem?_eq_getElem hil]
      | none =>
        refine iteT ⟨_, rfl, d, dx1, _, rfl, hi1, rfl, _, rfl, Nat.zero_le _, fun l0 nl0 => ?_⟩
        intro x dxc nx ndx nex
        have s0 := same_new (o := .lst []) nl0
        have nxl : l0 ≠ x := ne_of_none upd_same nx
        have nxd : l0 ≠ dxc := ne_of_none upd_same ndx
        refine ⟨x, dxc, l0, [], rfl, upd_same, by rw [upd_ne nxl, upd_ne nxd, upd_same], fun H3 k3 hx3 => ⟨rfl, ?_⟩⟩
        have s03 : Same (upd H1 l0 (.lst [])) H3 := mk_same nx ndx k3
        have s13 : Same H1 H3 := s0.trans s03
        have nx1 : H1 x = none := s0.free nx
        have hd3 := hd1.same s13
        have hl03 : H3 l0 = some (.lst []) := s03 _ _ upd_same
        have hda := hd3.addc gt hx3 hl03 (hd1.nfree nx1) (hd1.nfree nl0)
        have ga := gt.addc
        have cx : (p.add st.cs.length x l0).cas st.cs.length = x := if_pos rfl
        refine ⟨d, st.tick.addc, p.add st.cs.length x l0, .make n st.cs.length, ?_, hda, trivial, (by show st.tab.length ≤ 1000; have := gd.T.len; omega), (by show st.chg.length ≤ 1000; omega), fun H4 k4 hd4 => ⟨rfl, ?_⟩⟩
        · show [V.ref d, .non, .str n, .ref x] = [V.ref d, .non, .str n, .ref ((p.add st.cs.length x l0).cas st.cs.length)]
          rw [cx]
        have lel : st.tick.addc.cs.length = st.cs.length + 1 := by
          show (st.cs ++ [_]).length = _
          rw [List.length_append]; rfl
        have o13 : Out (foot d p st.cs.length) H H3 := fun c o h nf => s13 _ _ (o1 c o h nf)
        have o14 : Out (foot d p st.cs.length) H H4 := fun c o h nf => k4 c o (o13 c o h nf) (fun z => nf (.inr (.inl z))) (fun z => nf (.inr (.inr (.inr (.inl z)))))
        have fr : ∀ {a}, H1 a = none → H a = none := fun {a} h => o1.free (fun c f => by
          obtain ⟨o, e, _⟩ := hd1.occ f
          rw [e]
          exact fun z => nomatch z) h
        refine ⟨p.add st.cs.length x l0, st.tick.addc.chgd (.make n st.cs.length), st.cs.length, ⟨[], 0⟩, hd4, ga.chgd trivial ⟨hn, by rw [lel]; exact Nat.lt_succ_self _⟩, tget_put _ _ _, ?_, ?_, o14, fun a h => ?_, ?_, (by show 0 ≤ 900000; decide)⟩
        · show (st.cs ++ [_])[st.cs.length]? = _
          rw [List.getElem?_append_right (Nat.le_refl _), Nat.sub_self]
          rfl
        · unfold DS.app
          rw [e]
          rfl
        · have h : foot d (p.add st.cs.length x l0) st.tick.addc.cs.length a := h
          rw [lel] at h
          rcases foot_add h with z | z | z
          · exact .inl z
          · exact .inr (by rw [z]; exact fr nx1)
          · exact .inr (by rw [z]; exact fr nl0)
        · exact o14 _ _ hl nfl
    · rintro σ H4 ⟨rfl, p', st', i, c, hd4, g4, ht4, hc4, e4, o4, w4, hl4, hcl⟩
      obtain ⟨dx4, hi4⟩ := hd4.inst'
      have hg := hd4.get n
      rw [ht4] at hg
      obtain ⟨dxi, c1, c2⟩ := hd4.cts i c hc4
      have hil : i < st'.cs.length := (List.getElem?_eq_some_iff.mp hc4).1
      refine ⟨_, rfl, d, CD, dx4, _, .ref p'.kd, rfl, hi4, T.cl, T.na _ (by decide +kernel), rfl, _, rfl, p'.kd, .ref (p'.cas i), rfl, hg, p'.cas i, CC, dxi, _, .ref (p'.las i), rfl, c1, TC.cl, TC.na _ (by decide +kernel), rfl, .inl ⟨rfl, _, .inl (.inl c2)⟩, _, rfl, l, _, rfl, .inl (.inl (.inl hl4)), fun l2 nl2 => ?_⟩
      have nl3 : p'.las i ≠ l2 := ne_of_none c2 nl2
      refine ⟨p'.las i, l2, _, _, rfl, rfl, by rw [upd_ne nl3]; exact c2, upd_same, ?_, ?_⟩
      · rw [List.length_map, List.length_map]
        exact Nat.le_trans (m := 1800000) (by omega) (by decide)
      · have hset := hd4.setO (H1 := upd (upd H4 l2 (.lst (os.map V.int))) (p'.las i) (.lst (c.o.map V.int ++ os.map V.int))) (o := c.o ++ os) hc4 (fun a u h m => by rw [upd_ne m, upd_ne (ne_of_none h nl2)]; exact h) (by rw [upd_same, List.map_append])
        have gs := g4.setc i ⟨c.o ++ os, c.s⟩
        rw [e4] at hset gs
        refine q hlim _ p' ?_ ?_ hset gs
        · refine (fun a o h nf => ?_)
          have h4 := o4 a o h nf
          have m : a ≠ p'.las i := fun z => by
            rcases w4 a (.inr (.inr (.inr (.inr ⟨i, hil, .inr z⟩)))) with y | y
            · exact nf y
            · rw [y] at h; cases h
          rw [upd_ne m, upd_ne (ne_of_none h4 nl2)]
          exact h4
        · rw [← e4, setc_len]
          exact w4
end
end K2

namespace K2
open PySem L2
theorem DkAt.nf {CD CC : Addr} {H : Hp} {d : Addr} {st : DS} {p : DP} (h : DkAt CD CC H d st p) {c : Addr} (f : foot d p st.cs.length c) : H c ≠ none := by
  obtain ⟨o, e, _⟩ := h.occ f
  rw [e]
  exact fun z => nomatch z
section
variable {P : Program} {w : World} {K : PySem.W.Frag} {mg : Str → Option Value} {base : Heap}
/-- what a deed that changes no address's place asks of what comes after -/
def AftE (CD CC CE : Addr) (d : Addr) (st st' : DS) (p : DP) (H : Hp) (Q : VK) (E : XK) : Prop :=
  (st.lim ≠ some 0 → ∀ H' p', Out (foot d p st.cs.length) H H' → Gw (foot d p st.cs.length) (foot d p' st'.cs.length) H → DkAt CD CC H' d st' p' → Gd st' → Q .non H') ∧
  (st.lim = some 0 → ∀ H' x, Same H H' → H x = none → H' x = some (errD st.done) → E (.ref CE) (some x) H')
def spSync (CD CC CE : Addr) : Sp := fun vs H Q E => ∃ (d : Addr) (st : DS) (p : DP) (n : Str) (i : Nat) (c : Cn), vs = [.ref d, .str n] ∧ DkAt CD CC H d st p ∧ Gd st ∧ tget st.tab n = some i ∧ st.cs[i]? = some c ∧
  AftE CD CC CE d st (st.tick.setc i ⟨c.o, c.o.length⟩) p H Q E
theorem scSync : FnScope ["self", "name", "content"] ["self", "name"] (defScope sDiskSync) := ⟨rfl, rfl, rfl, by decide +kernel, rfl, by decide +kernel, by decide +kernel⟩
theorem ok_sync {f fI fC fB CD CC CE : Addr} {fd fdB : FuncData} (F : Fun K "sync" "Disk.sync" sDiskSync f fd) (N : Nm mg) (T : KC K CD fI CDf) (TC : KC K CC fC CCf)
    (GB : FnOk P w K mg base (L2.CX P w) 3 fB fdB ["self"] (spBegin CD CC CE)) (bB : Binds K fdB ["self"] []) (mB : Meth K CD "_begin_deed" fB) : FnOk P w K mg base (L2.CX P w) 4 f fd ["self", "name"] (spSync CD CC CE) := by
  refine F.okX scSync (fun vs H Q E h => ?_) (fun cdv A outer s H vs Q E hr h => ?_)
  · obtain ⟨d, st, p, n, i, c, rfl, _⟩ := h
    rfl
  · obtain ⟨d, st, p, n, i, c, rfl, hd, gd, ht, hc, q, qe⟩ := h
    have hu := hu_of hr
    refine ⟨_, pss_cons (ps_expr (pe_methX0 (pv 0) T.cl mB GB hr bB (fun σ => passAt (takes_of rfl rfl rfl rfl) σ)))
      (pss_cons (ps_set (i := 2) scSync.nd rfl (.inl rfl) (pe_dget hu (pe_fld (pv 0) rfl) (pv 1) (fun _ _ => rfl)))
      (pss_one (ps_fld (pv 2) (pe_callB call_len_seq (by rfl) N.len PySem.boot_len (pa_cons (pe_fld (pv 2) rfl) pa_nil)) rfl))), ?_⟩
    obtain ⟨dx, hi⟩ := hd.inst'
    refine ⟨_, rfl, d, dx, _, rfl, hi, rfl, d, st, p, rfl, hd, fun hlim H1 k1 hd1 => ?_, fun hlim H1 x s1 nx hx => qe hlim H1 x s1 nx hx⟩
    obtain ⟨dx1, hi1⟩ := hd1.inst'
    have hg := hd1.get n
    rw [show tget st.tick.tab n = some i from ht] at hg
    obtain ⟨dxi, c1, c2⟩ := hd1.cts i c hc
    refine ⟨_, rfl, d, CD, dx1, _, .ref p.kd, rfl, hi1, T.cl, T.na _ (by decide +kernel), rfl, _, rfl, p.kd, .ref (p.cas i), rfl, hg, ?_⟩
    refine ⟨_, rfl, p.cas i, CC, dxi, _, .ref (p.las i), rfl, c1, TC.cl, TC.na _ (by decide +kernel), rfl, p.las i, _, rfl, .inl (.inl (.inl c2)), _, rfl, p.cas i, CC, dxi, _, rfl, c1, TC.cl, TC.na _ (by decide +kernel), (by show 2 < 1000; decide), ?_⟩
    have hil : i < st.cs.length := (List.getElem?_eq_some_iff.mp hc).1
    have hs := hd1.setS (s := c.o.length) (dx1 := dxi) (H1 := upd H1 (p.cas i) (.ins CC dxi [("octets", .ref (p.las i)), ("sure", .int (c.o.length : Int))])) hc (fun a u h m => by rw [upd_ne m]; exact h) upd_same
    rw [List.length_map]
    refine q hlim _ p (fun a o h nf => ?_) ?_ hs (gd.tick.setc _ _)
    · have m : a ≠ p.cas i := fun z => nf (.inr (.inr (.inr (.inr ⟨i, hil, .inl z⟩))))
      rw [upd_ne m]
      exact k1 a o h fun z => nf (.inl z)
    · rw [setc_len]
      exact Gw.refl
def spRename (CD CC CE : Addr) : Sp := fun vs H Q E => ∃ (d : Addr) (st : DS) (p : DP) (a b : Str) (i : Nat), vs = [.ref d, .str a, .str b] ∧ DkAt CD CC H d st p ∧ Gd st ∧ tget st.tab a = some i ∧ b ∈ NM ∧ st.chg.length ≤ 900 ∧
  AftE CD CC CE d st (st.tick.chgd (.ren a b i)) p H Q E
theorem scRename : FnScope ["self", "old", "new"] ["self", "old", "new"] (defScope sDiskRename) := ⟨rfl, rfl, rfl, by decide +kernel, rfl, by decide +kernel, by decide +kernel⟩
theorem chg_out {H H1 H2 : Hp} {d : Addr} {p : DP} {n : Nat} (k1 : ∀ a o, H a = some o → a ≠ d → H1 a = some o) (k2 : ∀ a o, H1 a = some o → a ≠ p.kd → a ≠ p.cl → H2 a = some o) : Out (foot d p n) H H2 := fun a o h nf =>
  k2 a o (k1 a o h fun z => nf (.inl z)) (fun z => nf (.inr (.inl z))) (fun z => nf (.inr (.inr (.inr (.inl z)))))
theorem ok_rename {f fI fB fG CD CC CE : Addr} {fd fdB fdG : FuncData} (F : Fun K "rename" "Disk.rename" sDiskRename f fd) (T : KC K CD fI CDf)
    (GB : FnOk P w K mg base (L2.CX P w) 3 fB fdB ["self"] (spBegin CD CC CE)) (bB : Binds K fdB ["self"] []) (mB : Meth K CD "_begin_deed" fB) (GG : FnOk P w K mg base CX0 2 fG fdG ["self", "old", "new", "content"] (spChange CD CC)) (bG : Binds K fdG ["self", "old", "new", "content"] []) (mG : Meth K CD "_change" fG) :
    FnOk P w K mg base (L2.CX P w) 4 f fd ["self", "old", "new"] (spRename CD CC CE) := by
  refine F.okX scRename (fun vs H Q E h => ?_) (fun cdv A outer s H vs Q E hr h => ?_)
  · obtain ⟨d, st, p, a, b, i, rfl, _⟩ := h
    rfl
  · obtain ⟨d, st, p, a, b, i, rfl, hd, gd, ht, hb, hch, q, qe⟩ := h
    have hu := hu_of hr
    have hr2 := hr.mono (j := 2) (by decide)
    refine ⟨_, pss_cons (ps_expr (pe_methX0 (pv 0) T.cl mB GB hr bB (fun σ => passAt (takes_of rfl rfl rfl rfl) σ)))
      (pss_one (ps_expr (pe_meth (pv 0) T.cl mG GG hr2 bG .nil pass0 (pa_cons (pv 1) (pa_cons (pv 2) (pa_cons (pe_dget hu (pe_fld (pv 0) rfl) (pv 1) (fun _ _ => rfl)) pa_nil)))))), ?_⟩
    obtain ⟨dx, hi⟩ := hd.inst'
    refine ⟨_, rfl, d, dx, _, rfl, hi, rfl, d, st, p, rfl, hd, fun hlim H1 k1 hd1 => ?_, fun hlim H1 x s1 nx hx => qe hlim H1 x s1 nx hx⟩
    obtain ⟨dx1, hi1⟩ := hd1.inst'
    have hg := hd1.get a
    rw [show tget st.tick.tab a = some i from ht] at hg
    have hil : i < st.cs.length := gd.T.ix _ (tget_mem ht)
    refine ⟨_, rfl, d, dx1, _, rfl, hi1, rfl, _, rfl, _, rfl, _, rfl, d, CD, dx1, _, .ref p.kd, rfl, hi1, T.cl, T.na _ (by decide +kernel), rfl, _, rfl, p.kd, .ref (p.cas i), rfl, hg, ?_⟩
    refine ⟨d, st.tick, p, .ren a b i, rfl, hd1, ht, (by show st.tab.length ≤ 1000; have := gd.T.len; omega), (by show st.chg.length ≤ 1000; omega), fun H2 k2 hd2 => ?_⟩
    exact q hlim H2 p (chg_out k1 k2) Gw.refl hd2 (gd.tick.chgd ht ⟨hb, hil⟩)
def spRemove (CD CC CE : Addr) : Sp := fun vs H Q E => ∃ (d : Addr) (st : DS) (p : DP) (a : Str) (i : Nat), vs = [.ref d, .str a] ∧ DkAt CD CC H d st p ∧ Gd st ∧ tget st.tab a = some i ∧ st.chg.length ≤ 900 ∧
  AftE CD CC CE d st (st.tick.chgd (.rem a)) p H Q E
theorem scRemove : FnScope ["self", "name"] ["self", "name"] (defScope sDiskRemove) := ⟨rfl, rfl, rfl, by decide +kernel, rfl, by decide +kernel, by decide +kernel⟩
theorem ok_remove {f fI fB fG CD CC CE : Addr} {fd fdB fdG : FuncData} (F : Fun K "remove" "Disk.remove" sDiskRemove f fd) (T : KC K CD fI CDf)
    (GB : FnOk P w K mg base (L2.CX P w) 3 fB fdB ["self"] (spBegin CD CC CE)) (bB : Binds K fdB ["self"] []) (mB : Meth K CD "_begin_deed" fB) (GG : FnOk P w K mg base CX0 2 fG fdG ["self", "old", "new", "content"] (spChange CD CC)) (bG : Binds K fdG ["self", "old", "new", "content"] []) (mG : Meth K CD "_change" fG) :
    FnOk P w K mg base (L2.CX P w) 4 f fd ["self", "name"] (spRemove CD CC CE) := by
  refine F.okX scRemove (fun vs H Q E h => ?_) (fun cdv A outer s H vs Q E hr h => ?_)
  · obtain ⟨d, st, p, a, i, rfl, _⟩ := h
    rfl
  · obtain ⟨d, st, p, a, i, rfl, hd, gd, ht, hch, q, qe⟩ := h
    have hr2 := hr.mono (j := 2) (by decide)
    refine ⟨_, pss_cons (ps_expr (pe_methX0 (pv 0) T.cl mB GB hr bB (fun σ => passAt (takes_of rfl rfl rfl rfl) σ)))
      (pss_one (ps_expr (pe_meth (pv 0) T.cl mG GG hr2 bG .nil pass0 (pa_cons (pv 1) (pa_cons pe_non (pa_cons pe_non pa_nil)))))), ?_⟩
    obtain ⟨dx, hi⟩ := hd.inst'
    refine ⟨_, rfl, d, dx, _, rfl, hi, rfl, d, st, p, rfl, hd, fun hlim H1 k1 hd1 => ?_, fun hlim H1 x s1 nx hx => qe hlim H1 x s1 nx hx⟩
    obtain ⟨dx1, hi1⟩ := hd1.inst'
    refine ⟨_, rfl, d, dx1, _, rfl, hi1, rfl, _, rfl, ?_⟩
    refine ⟨d, st.tick, p, .rem a, rfl, hd1, ⟨i, ht⟩, (by show st.tab.length ≤ 1000; have := gd.T.len; omega), (by show st.chg.length ≤ 1000; omega), fun H2 k2 hd2 => ?_⟩
    exact q hlim H2 p (chg_out k1 k2) Gw.refl hd2 (gd.tick.chgd ⟨i, ht⟩ trivial)
end
end K2

namespace K2
open PySem L2
theorem pe_fldK {X : Cx} {e : Expr} {f : Str} {pos : Pos} {ta : TE} (K : PySem.W.Frag) (hK : X.K = K) (he : PE X e ta) (hb : attributeBase e f X.env (eval e X.env) = eval e X.env) : PE X (.Attribute e f pos) (tFld K ta f) := by
  subst hK
  exact pe_fld he hb
theorem gap_putK {kvs : List (Key × V)} {k : Key} {v : V} (h : k ∉ kvs.map (·.1)) : putK kvs k v = kvs ++ [(k, v)] := by
  unfold putK
  rw [if_neg]
  intro z
  obtain ⟨p, hp, e⟩ := List.any_eq_true.mp z
  exact h (List.mem_map.mpr ⟨p, hp, of_decide_eq_true e⟩)
/-- a dict comprehension over a walk -/
theorem dc_it {J : It} {n : Nat} {G : Hp → Prop} {Y : Nat → Hp → V → Hp → Prop} (w : Walk J n G Y) {g : TG} {tt : TT} {tk tv : TE} {vs : List Nat} {σ : St} {H1 : Hp} {D : Addr} {Qd : Hp → Prop} (Pv : Nat → Hp → Prop) (h0 : Pv 0 (upd H1 D (.dK []))) (hG : ∀ i H, i ≤ n → Pv i H → G H)
    (hs : ∀ i x H H', i < n → Pv i H → Y i H x H' → g x (wipe σ vs) H' fun σ2 H2 => wipe σ2 vs = wipe σ vs ∧ tt σ2 H2 fun b H3 =>
      if b = true then tk σ2 H3 fun y H4 => tv σ2 H4 fun z H5 => ∃ kvs k, y = kV k ∧ H5 D = some (.dK kvs) ∧ kvs.length < sizeLine ∧ Pv (i + 1) (upd H5 D (.dK (putK kvs k z))) else Pv (i + 1) H3) (hd : ∀ H, Pv n H → Qd H) :
    ∃ W : Nat → Nat → Hp → Prop, (∃ m, W 0 m (upd H1 D (.dK []))) ∧ ∀ i m H, W i m H →
      (J.stop i H ∧ Qd H) ∨ (J.go i H ∧ ∃ Nx : Hp → Prop, (∀ H', Nx H' → ∃ m', m' < m ∧ W (i + 1) m' H') ∧ ∀ x H', J.yld i H x H' → g x (wipe σ vs) H' fun σ2 H2 => wipe σ2 vs = wipe σ vs ∧ tt σ2 H2 fun b H3 =>
        if b = true then tk σ2 H3 fun y H4 => tv σ2 H4 fun z H5 => ∃ kvs k, y = kV k ∧ H5 D = some (.dK kvs) ∧ kvs.length < sizeLine ∧ Nx (upd H5 D (.dK (putK kvs k z))) else Nx H3) := by
  refine ⟨fun i m H => m = n - i ∧ i ≤ n ∧ Pv i H, ⟨n, by simp, Nat.zero_le _, h0⟩, ?_⟩
  rintro i m H ⟨rfl, hi, p⟩
  have q := hG i H hi p
  by_cases hlt : i < n
  · exact .inr ⟨w.goes i H hlt q, Pv (i + 1), fun H' p' => ⟨n - (i + 1), by omega, rfl, hlt, p'⟩, fun x H' y => hs i x H H' hlt p (w.yields i H x H' hlt q y)⟩
  · have e : i = n := by omega
    subst e
    exact .inl ⟨w.stops H q, hd H p⟩
/-- {k: d[k] for k in d}, d a table -/
theorem dc_tab {kd : Addr} {od : Obj} {h : Nat → V} {t : Tb} {j : Nat} {tv : TE} {σ : St} {H1 : Hp} {D : Addr} {Qd : Hp → Prop} (hk : H1 kd = some (.frz od (.dK (mp h t)))) (nD : H1 D = none) (nd : (t.map (·.1)).Nodup) (hl : t.length ≤ 1000) (hj : j < σ.length)
    (hw : ∀ v, wipe ((wipe σ [j]).set j v) [j] = wipe σ [j])
    (hv : ∀ H a i Q, Same H1 H → tget t a = some i → Q (h i) H → tv ((wipe σ [j]).set j (some (.str a))) H Q) (hd : ∀ H, Same H1 H → H D = some (.dK (mp h t)) → Qd H) :
    ∃ W : Nat → Nat → Hp → Prop, (∃ m, W 0 m (upd H1 D (.dK []))) ∧ ∀ i m H, W i m H →
      ((Itk kd od (mp h t)).stop i H ∧ Qd H) ∨ ((Itk kd od (mp h t)).go i H ∧ ∃ Nx : Hp → Prop, (∀ H', Nx H' → ∃ m', m' < m ∧ W (i + 1) m' H') ∧ ∀ x H', (Itk kd od (mp h t)).yld i H x H' → gName j x (wipe σ [j]) H' fun σ2 H2 => wipe σ2 [j] = wipe σ [j] ∧ tYes σ2 H2 fun b H3 =>
        if b = true then tVar j σ2 H3 fun y H4 => tv σ2 H4 fun z H5 => ∃ kvs k, y = kV k ∧ H5 D = some (.dK kvs) ∧ kvs.length < sizeLine ∧ Nx (upd H5 D (.dK (putK kvs k z))) else Nx H3) := by
  refine dc_it walk_keys (fun i H => Same H1 H ∧ H D = some (.dK (mp h (t.take i)))) ⟨same_new nD, upd_same⟩ (fun i H _ z => z.1 _ _ hk) ?_ (fun H z => ?_)
  · rintro i x H H' hi ⟨sm, hD⟩ ⟨rfl, k, v, hkv, rfl⟩
    have hi2 : i < t.length := by rw [← mp_len h t]; exact hi
    have e0 : (mp h t)[i]? = some ((Sum.inr t[i].1 : Key), h t[i].2) := by
      unfold mp
      rw [List.getElem?_map, List.getElem?_eq_getElem hi2]
      rfl
    rw [e0] at hkv
    obtain ⟨rfl, rfl⟩ := Prod.mk.inj (Option.some.inj hkv)
    refine ⟨hw _, ?_⟩
    dsimp only [tYes]
    rw [if_pos rfl]
    refine ⟨_, List.getElem?_set_self (by rw [wipe_length]; exact hj), hv H' t[i].1 t[i].2 _ sm (tget_in nd (List.getElem_mem hi2)) ?_⟩
    refine ⟨_, (Sum.inr t[i].1 : Key), rfl, hD, ?_, same_put sm nD, ?_⟩
    · rw [mp_len, List.length_take]
      exact small1000 (by omega)
    · rw [upd_same, gap_putK]
      · rw [List.take_add_one, List.getElem?_eq_getElem hi2]
        unfold mp
        rw [List.map_append]
        rfl
      · rw [mp_keys]
        intro z
        obtain ⟨a, ha, e⟩ := List.mem_map.mp z
        have e2 : a = t[i].1 := Sum.inr.inj e
        rw [List.map_take, e2] at ha
        obtain ⟨m, hm, e3⟩ := List.mem_take_iff_getElem.mp ha
        have h1 : m < i := by omega
        have h2 : (t.map (·.1))[i]'(by rw [List.length_map]; exact hi2) = t[i].1 := List.getElem_map _
        have := (List.getElem_inj nd (h₀ := by rw [List.length_map]; omega) (h₁ := by rw [List.length_map]; exact hi2)).mp (e3.trans h2.symm)
        omega
  · rw [mp_len, List.take_length] at z
    exact hd H z.1 z.2
theorem same_lock {H H2 : Hp} {a : Addr} {o : Obj} {u : HO} (h : H a = some u) (s : Same (upd H a (.frz o u)) H2) : Same H (upd H2 a u) := fun c x e => by
  by_cases z : c = a
  · subst z
    rw [upd_same, ← h, e]
  · rw [upd_ne z]
    exact s _ _ (by rw [upd_ne z]; exact e)
theorem DkAt.syn {CD CC : Addr} {H H1 : Hp} {d D L : Addr} {st : DS} {p : DP} (h : DkAt CD CC H d st p) (g : Gd st) {dx : Addr} (k : ∀ a o, H a = some o → a ≠ d → H1 a = some o) (hd : H1 d = some (.ins CD dx (dfs { p with sd := D, cl := L } st.lim st.done)))
    (hD : H1 D = some (.dK (mp (fun i => .ref (p.cas i)) st.tab))) (hL : H1 L = some (.lst [])) (nD : H D = none) (nL : H L = none) : DkAt CD CC H1 d { st with sure := st.tab, chg := [] } { p with sd := D, cl := L } := by
  obtain ⟨dx0, e0⟩ := h.inst
  have nd : ∀ {a o}, H a = some o → (∀ C dx fs, o ≠ .ins C dx fs) → a ≠ d := fun ha ho => ne_of ha e0 (ho _ _ _)
  refine ⟨⟨dx, hd⟩, k _ _ h.con (nd h.con fun _ _ _ z => nomatch z), hD, ⟨[], hL, Rows.nil⟩, fun i c hc => ?_, ne_of_none h.con nD, fun i hi => ?_, h.n3, h.n4⟩
  · obtain ⟨dx1, e1, e2⟩ := h.cts i c hc
    exact ⟨dx1, k _ _ e1 (ne_of e1 e0 (by intro z; cases z)), k _ _ e2 (nd e2 fun _ _ _ z => nomatch z)⟩
  · obtain ⟨dx1, e1, e2⟩ := h.cts i _ (List.getElem?_eq_getElem hi)
    exact ne_of_none e2 nL
section
variable {P : Program} {w : World} {K : PySem.W.Frag} {mg : Str → Option Value} {base : Heap}
def DS.syn (st : DS) : DS := { st with sure := st.tab, chg := [] }
def spSyncN (CD CC CE : Addr) : Sp := fun vs H Q E => ∃ (d : Addr) (st : DS) (p : DP), vs = [.ref d] ∧ DkAt CD CC H d st p ∧ Gd st ∧ AftE CD CC CE d st st.tick.syn p H Q E
theorem scSyncN : FnScope ["self", "name"] ["self"] (defScope sDiskSyncNames) := ⟨rfl, rfl, rfl, by decide +kernel, rfl, by decide +kernel, by decide +kernel⟩
theorem ok_syncN {f fI fB CD CC CE : Addr} {fd fdB : FuncData} (F : Fun K "sync_names" "Disk.sync_names" sDiskSyncNames f fd) (T : KC K CD fI CDf)
    (GB : FnOk P w K mg base (L2.CX P w) 3 fB fdB ["self"] (spBegin CD CC CE)) (bB : Binds K fdB ["self"] []) (mB : Meth K CD "_begin_deed" fB) : FnOk P w K mg base (L2.CX P w) 4 f fd ["self"] (spSyncN CD CC CE) := by
  refine F.okX scSyncN (fun vs H Q E h => ?_) (fun cdv A outer s H vs Q E hr h => ?_)
  · obtain ⟨d, st, p, rfl, _⟩ := h
    rfl
  · obtain ⟨d, st, p, rfl, hd, gd, q, qe⟩ := h
    have hu := hu_of hr
    refine ⟨_, pss_cons (ps_expr (pe_methX0 (pv 0) T.cl mB GB hr bB (fun σ => passAt (takes_of rfl rfl rfl rfl) σ)))
      (pss_cons (ps_fld (pv 0) (pe_lock (pe_dc (own := [("name", 1)]) (g := gName 1) (tt := tYes) rfl scSyncN.nd (pi_keys (pe_fld (pv 0) rfl))
          (blkOk_by (N := ["self", "name"]) (sc := defScope sDiskSyncNames) (by decide +kernel))
          (fun _ _ _ _ _ => pg_name (i := 1) scSyncN.nd rfl (Or.inl rfl)) (fun _ _ _ _ _ => pts_nil) (fun _ _ _ _ _ => pv 1) (fun _ _ _ _ _ => pe_dget hu (pe_fldK K rfl (pv 0) rfl) (pv 1) (fun _ _ => rfl)))) rfl)
      (pss_one (ps_fld (pv 0) (pe_lst pa_nil) rfl))), ?_⟩
    obtain ⟨dx, hi⟩ := hd.inst'
    refine ⟨_, rfl, d, dx, _, rfl, hi, rfl, d, st, p, rfl, hd, fun hlim H1 k1 hd1 => ?_, fun hlim H1 x s1 nx hx => qe hlim H1 x s1 nx hx⟩
    obtain ⟨dx1, hi1⟩ := hd1.inst'
    have gt := gd.tick
    have ndk : d ≠ p.kd := ne_of hi1 hd1.con (by intro z; cases z)
    refine ⟨p.kd, _, hd1.con, trivial, fun od => ?_⟩
    have hiL : (upd H1 p.kd (.frz od (.dK (mp (fun i => .ref (p.cas i)) st.tick.tab)))) d = some (.ins CD dx1 [("_contents", .ref p.kd), ("_sure_contents", .ref p.sd), ("_changes", .ref p.cl), ("_allowed", limV st.tick.lim), ("_done", .int (st.tick.done : Int))]) := by
      rw [upd_ne ndk]; exact hi1
    refine ⟨_, rfl, d, CD, dx1, _, .ref p.kd, rfl, hiL, T.cl, T.na _ (by decide +kernel), rfl, p.kd, od, rfl, .inl ⟨_, upd_same, fun D nD => ?_⟩⟩
    refine dc_tab (h := fun i => .ref (p.cas i)) (t := st.tick.tab) (σ := [some (.ref d), none]) upd_same nD gt.T.nd (by have := gt.T.len; omega) (by show 1 < 2; decide) (fun _ => rfl) (fun H2 a i R sm ha r => ?_) (fun H2 sm hD => ?_)
    · refine ⟨_, rfl, d, CD, dx1, _, .ref p.kd, rfl, sm _ _ hiL, T.cl, T.na _ (by decide +kernel), rfl, _, rfl, p.kd, .ref (p.cas i), rfl, ?_, r⟩
      refine .inl ⟨_, (Sum.inr a : Key), .inr ⟨od, sm _ _ upd_same⟩, rfl, ?_⟩
      rw [mp_get, ha]
      rfl
    · have nkD : D ≠ p.kd := fun z => by rw [z, upd_same] at nD; cases nD
      have nD1 : H1 D = none := by rw [upd_ne nkD] at nD; exact nD
      have s12 := same_lock hd1.con sm
      refine ⟨sm _ _ upd_same, _, rfl, d, CD, dx1, _, rfl, s12 _ _ hi1, T.cl, T.na _ (by decide +kernel), (by show 5 < 1000; decide), ?_⟩
      refine ⟨Nat.zero_le _, fun L nL => ?_⟩
      have nLd : L ≠ d := fun z => by rw [z, upd_same] at nL; cases nL
      rw [upd_ne nLd] at nL
      have nL1 : H1 L = none := s12.free nL
      have hD2 : (upd H2 p.kd (.dK (mp (fun i => .ref (p.cas i)) st.tick.tab))) D = some (.dK (mp (fun i => .ref (p.cas i)) st.tick.tab)) := by rw [upd_ne nkD]; exact hD
      have nDd : D ≠ d := fun z => by rw [z, hi1] at nD1; cases nD1
      have nDL : D ≠ L := ne_of_none hD2 nL
      refine ⟨_, rfl, d, CD, dx1, _, rfl, by rw [upd_ne nLd.symm, upd_same], T.cl, T.na _ (by decide +kernel), (by show 5 < 1000; decide), ?_⟩
      have kk : ∀ a o, H1 a = some o → a ≠ d → (upd (upd (upd (upd H2 p.kd (.dK (mp (fun i => .ref (p.cas i)) st.tick.tab))) d (.ins CD dx1 [("_contents", .ref p.kd), ("_sure_contents", .ref D), ("_changes", .ref p.cl), ("_allowed", limV st.tick.lim), ("_done", .int (st.tick.done : Int))])) L (.lst [])) d (.ins CD dx1 [("_contents", .ref p.kd), ("_sure_contents", .ref D), ("_changes", .ref L), ("_allowed", limV st.tick.lim), ("_done", .int (st.tick.done : Int))])) a = some o := fun a o h n => by
        rw [upd_ne n, upd_ne (ne_of_none h nL1), upd_ne n]
        exact s12 _ _ h
      have hds := hd1.syn (D := D) (L := L) gt kk upd_same (by rw [upd_ne nDd, upd_ne nDL, upd_ne nDd]; exact hD2) (by rw [upd_ne nLd, upd_same]) nD1 nL1
      have o1 : Out (foot d p st.cs.length) H H1 := out_d k1
      have fr : ∀ {a}, H1 a = none → H a = none := fun {a} h => o1.free (fun c f => hd1.nf f) h
      refine q hlim _ { p with sd := D, cl := L } (fun a o h nf => kk a o (o1 a o h nf) fun z => nf (.inl z)) (fun a h => ?_) hds gt.sync
      rcases h with h | h | h | h | h
      · exact .inl (.inl h)
      · exact .inl (.inr (.inl h))
      · exact .inr (by rw [h]; exact fr nD1)
      · exact .inr (by rw [h]; exact fr nL1)
      · exact .inl (.inr (.inr (.inr (.inr h))))
end
end K2

namespace K2
open PySem L2
theorem cut0 {xs : List V} (a : Nat) : cutV xs none (some (a : Int)) = xs.take a := by
  unfold cutV
  rw [show HT.sIx xs.length xs.length (some (a : Int)) = min a xs.length from HT.sIx_nat _ _ a, show HT.sIx xs.length 0 none = 0 from rfl, List.drop_zero, Nat.sub_zero]
  by_cases h : a ≤ xs.length
  · rw [Nat.min_eq_left h]
  · rw [Nat.min_eq_right (by omega), List.take_of_length_le (Nat.le_refl _), List.take_of_length_le (by omega)]
theorem cutN {xs : List V} (a : Nat) : cutV xs (some (a : Int)) none = xs.drop a := by
  unfold cutV
  rw [show HT.sIx xs.length 0 (some (a : Int)) = min a xs.length from HT.sIx_nat _ _ a, show HT.sIx xs.length xs.length none = xs.length from rfl]
  by_cases h : a ≤ xs.length
  · rw [Nat.min_eq_left h, List.take_of_length_le (by rw [List.length_drop]; omega)]
  · rw [Nat.min_eq_right (by omega), List.drop_of_length_le (Nat.le_refl _), List.drop_of_length_le (by omega), List.take_nil]
def bump (l : List Int) : List Int := l.dropLast ++ [(l.getLast?.getD 0 + 1) % 256]
theorem bump_len {l : List Int} (h : l ≠ []) : (bump l).length = l.length := by
  unfold bump
  have := List.length_pos_iff.mpr h
  rw [List.length_append, List.length_dropLast, List.length_singleton]
  omega
def olk (c : Cn) (cs : List Int) : Nat := (nb cs (((c.o.length - c.s : Nat) : Int) + 1)).toNat
def olr (c : Cn) (cs : List Int) : List Int := (c.o.drop c.s).take (olk c cs)
def olv (c : Cn) (cs : List Int) : List Int := c.o.take c.s ++ (if olr c cs ≠ [] ∧ nb cs.tail 3 = 1 then bump (olr c cs) else olr c cs)
def olc (c : Cn) (cs : List Int) : List Int := if olr c cs ≠ [] then cs.tail.tail else cs.tail
theorem nb_nn (cs : List Int) {b : Int} (h : 0 < b) : 0 ≤ nb cs b := Int.emod_nonneg _ (by omega)
theorem nb_lt (cs : List Int) {b : Int} (h : 0 < b) : nb cs b < b := Int.emod_lt_of_pos _ h
theorem olr_len (c : Cn) (cs : List Int) : (olr c cs).length ≤ c.o.length := by
  unfold olr
  rw [List.length_take, List.length_drop]
  omega
theorem olv_len (c : Cn) (cs : List Int) (h : c.s ≤ c.o.length) : (olv c cs).length ≤ c.o.length := by
  have e : (olr c cs).length ≤ c.o.length - c.s := by
    unfold olr
    rw [List.length_take, List.length_drop]
    omega
  unfold olv
  rw [List.length_append, List.length_take]
  split
  · rename_i z
    rw [bump_len z.1]
    omega
  · omega
section
variable {P : Program} {w : World} {K : PySem.W.Frag} {mg : Str → Option Value} {base : Heap}
def spOL (CC CH : Addr) : Sp := fun vs H Q _ => ∃ (x dx l h r : Addr) (c : Cn) (cs : List Int), vs = [.ref x, .ref h] ∧ H x = some (.ins CC dx [("octets", .ref l), ("sure", .int (c.s : Int))]) ∧ H l = some (.lst (c.o.map V.int)) ∧ l ≠ r ∧ c.o.length ≤ 1000000 ∧ ChAt CH H h r cs ∧
  ∀ H' q, (∀ a o, H a = some o → a ≠ r → H' a = some o) → ChAt CH H' h r (olc c cs) → H q = none → H' q = some (.lst ((olv c cs).map V.int)) → Q (.ref q) H'
theorem scOL : FnScope ["content", "choices", "sure", "unsure", "rest"] ["content", "choices"] (defScope sOctetsLeft) := ⟨rfl, rfl, rfl, by decide +kernel, rfl, by decide +kernel, by decide +kernel⟩
theorem ok_ol {f fN fC fH CC CH : Addr} {fd fdN : FuncData} (F : Fun K "octets_left" "octets_left" sOctetsLeft f fd) (N : Nm mg) (TC : KC K CC fC CCf) (TH : KC K CH fH CHf) (FN : Fun K "next_below" "Choices.next_below" sChoicesNextBelow fN fdN) (bN : Binds K fdN ["self", "bound"] []) (mN : Meth K CH "next_below" fN) :
    FnOk P w K mg base CX0 2 f fd ["content", "choices"] (spOL CC CH) := by
  have GN : FnOk P w K mg base CX0 1 fN fdN ["self", "bound"] (spNB CH) := ok_nb FN TH
  refine F.ok scOL (fun vs H Q E h => ?_) (fun cdv A outer s H vs Q E hr h => ?_)
  · obtain ⟨x, dx, l, h, r, c, cs, rfl, _⟩ := h
    rfl
  · obtain ⟨x, dx, l, h, r, c, cs, rfl, hx, hl, nlr, hc, hh, q⟩ := h
    refine ⟨_, pss_cons (ps_set (i := 2) scOL.nd rfl (.inl rfl) (pe_slice sl_list (pe_fld (pv 0) rfl) po_none (po_some (pe_fld (pv 0) rfl))))
      (pss_cons (ps_set (i := 3) scOL.nd rfl (.inl rfl) (pe_slice sl_list (pe_fld (pv 0) rfl) (po_some (pe_fld (pv 0) rfl)) po_none))
      (pss_cons (ps_set (i := 4) scOL.nd rfl (.inl rfl) (pe_slice sl_list (pv 3) po_none (po_some (pe_meth (pv 1) TH.cl mN GN hr bN .nil pass0 (pa_cons (pe_op op_add (pe_callB call_len_seq (by rfl) N.len PySem.boot_len (pa_cons (pv 3) pa_nil)) pe_int) pa_nil)))))
      (Evl.pss_cut (ps_if (PW.pt (pw_and (pt_truth (pv 4) (by intro _; rfl)) (pw_and1 (pt_cmpR op_eq (pe_meth (pv 1) TH.cl mN GN hr bN .nil pass0 (pa_cons pe_int pa_nil)) pe_int (nomark _)))))
        (pss_one (ps_asg (pe_op op_mod (pe_op op_add (pe_ix ix_list (pv 4) (pe_un un_neg pe_int) (fun _ _ => rfl)) pe_int) pe_int) (pg_sub (pv 4) (pe_un un_neg pe_int) set_list))) pss_nil)
      (pss_one (ps_ret (pe_op op_cat (pv 2) (pv 4))))))), ?_⟩
    obtain ⟨⟨dh, hh1⟩, hh2⟩ := hh
    have nrx : x ≠ r := ne_of hx hh2 (by intro z; cases z)
    have nrh : h ≠ r := ne_of hh1 hh2 (by intro z; cases z)
    refine ⟨_, rfl, x, CC, dx, _, .ref l, rfl, hx, TC.cl, TC.na _ (by decide +kernel), rfl, _, rfl, x, CC, dx, _, .int (c.s : Int), rfl, hx, TC.cl, TC.na _ (by decide +kernel), rfl, _, rfl, l, _, rfl, .inl (.inl hl), fun p2 n2 => ?_⟩
    rw [cut0, ← List.map_take]
    have s2 := same_new (o := .lst ((c.o.take c.s).map V.int)) n2
    refine ⟨_, rfl, x, CC, dx, _, .ref l, rfl, s2 _ _ hx, TC.cl, TC.na _ (by decide +kernel), rfl, _, rfl, x, CC, dx, _, .int (c.s : Int), rfl, s2 _ _ hx, TC.cl, TC.na _ (by decide +kernel), rfl, _, rfl, l, _, rfl, .inl (.inl (s2 _ _ hl)), fun p3 n3 => ?_⟩
    rw [cutN, ← List.map_drop]
    have s3 : Same H (upd (upd H p2 (.lst ((c.o.take c.s).map V.int))) p3 (.lst ((c.o.drop c.s).map V.int))) := s2.trans (same_new n3)
    have e3 : (upd (upd H p2 (.lst ((c.o.take c.s).map V.int))) p3 (.lst ((c.o.drop c.s).map V.int))) p3 = some (.lst ((c.o.drop c.s).map V.int)) := upd_same
    have e2 : (upd (upd H p2 (.lst ((c.o.take c.s).map V.int))) p3 (.lst ((c.o.drop c.s).map V.int))) p2 = some (.lst ((c.o.take c.s).map V.int)) := same_new n3 _ _ upd_same
    have np3 : H p3 = none := s2.free n3
    generalize (upd (upd H p2 (.lst ((c.o.take c.s).map V.int))) p3 (.lst ((c.o.drop c.s).map V.int))) = H3 at s3 e3 e2
    refine ⟨_, rfl, _, rfl, h, dh, _, rfl, s3 _ _ hh1, rfl, _, rfl, p3, _, rfl, .inl (.inl (.inl e3)), _, _, rfl, rfl, ?_⟩
    rw [List.length_map, List.length_drop]
    have hb : 0 < ((c.o.length - c.s : Nat) : Int) + 1 := by omega
    refine ⟨h, r, _, cs, rfl, hb, ⟨⟨dh, s3 _ _ hh1⟩, s3 _ _ hh2⟩, fun H4 k4 c4 => ?_⟩
    have nn := nb_nn cs hb
    have n3r : p3 ≠ r := fun z => by rw [z, hh2] at np3; cases np3
    have n2r : p2 ≠ r := fun z => by rw [z, hh2] at n2; cases n2
    refine ⟨_, rfl, p3, _, rfl, .inl (.inl (k4 _ _ e3 n3r)), fun p4 n4 => ?_⟩
    have ek : nb cs (((c.o.length - c.s : Nat) : Int) + 1) = ((olk c cs : Nat) : Int) := by
      unfold olk
      omega
    rw [ek, cut0, ← List.map_take]
    have n4 : H4 p4 = none := n4
    have s4 : ∀ a o, H a = some o → a ≠ r → H4 a = some o := fun a o h n => k4 a o (s3 a o h) n
    have nr4 : r ≠ p4 := ne_of_none c4.2 n4
    have nh4 : h ≠ p4 := by
      obtain ⟨d1, z⟩ := c4.1
      exact ne_of_none z n4
    have np4 : H p4 = none := by
      cases e : H p4 with
      | none => rfl
      | some o =>
        have := s4 p4 o e nr4.symm
        rw [n4] at this
        cases this
    have s5 : ∀ a o, H a = some o → a ≠ r → (upd H4 p4 (.lst ((olr c cs).map V.int))) a = some o := fun a o h n => same_new n4 _ _ (s4 a o h n)
    have c5 : ChAt CH (upd H4 p4 (.lst ((olr c cs).map V.int))) h r cs.tail := by
      obtain ⟨⟨d1, z1⟩, z2⟩ := c4
      exact ⟨⟨d1, same_new n4 _ _ z1⟩, same_new n4 _ _ z2⟩
    have e5 : (upd H4 p4 (.lst ((olr c cs).map V.int))) p4 = some (.lst ((olr c cs).map V.int)) := upd_same
    have g5 : (upd H4 p4 (.lst ((olr c cs).map V.int))) p2 = some (.lst ((c.o.take c.s).map V.int)) := same_new n4 _ _ (k4 _ _ e2 n2r)
    have e5' : (upd H4 p4 (.lst ((c.o.drop c.s).map V.int |>.take (olk c cs)))) = (upd H4 p4 (.lst ((olr c cs).map V.int))) := by
      unfold olr
      rw [List.map_take]
    show Evl.tCut _ _ _ _ (upd H4 p4 (.lst ((olr c cs).map V.int)))
    generalize (upd H4 p4 (.lst ((olr c cs).map V.int))) = H5 at s5 c5 e5 g5
    refine ⟨fun σ H6 => σ = [some (.ref x), some (.ref h), some (.ref p2), some (.ref p3), some (.ref p4)] ∧ (∀ a o, H a = some o → a ≠ r → H6 a = some o) ∧ ChAt CH H6 h r (olc c cs) ∧ H6 p2 = some (.lst ((c.o.take c.s).map V.int)) ∧
      H6 p4 = some (.lst ((if olr c cs ≠ [] ∧ nb cs.tail 3 = 1 then bump (olr c cs) else olr c cs).map V.int)), ?_, ?_⟩
    · refine ⟨_, rfl, _, .inl ⟨_, .inl (.inl e5), rfl⟩, ?_⟩
      rw [isE_map]
      by_cases hz : olr c cs = []
      · refine iteBF (by rw [hz]; rfl) (iteF ⟨rfl, s5, ?_, g5, ?_⟩)
        · unfold olc
          rw [if_neg (fun z => z hz)]
          exact c5
        · rw [if_neg (fun z => z.1 hz)]
          exact e5
      · refine iteB (by cases e : olr c cs with
          | nil => exact absurd e hz
          | cons a t => rfl) ?_
        obtain ⟨⟨d5, y1⟩, y2⟩ := id c5
        refine ⟨_, rfl, h, d5, _, rfl, y1, rfl, ?_⟩
        refine ⟨h, r, 3, cs.tail, rfl, by decide, c5, fun H6 k6 c6 => ?_⟩
        have n4r : p4 ≠ r := nr4.symm
        have s6 : ∀ a o, H a = some o → a ≠ r → H6 a = some o := fun a o h n => k6 a o (s5 a o h n) n
        refine ⟨rfl, _, rfl, ?_⟩
        have c7 : ChAt CH H6 h r (olc c cs) := by
          unfold olc
          rw [if_pos hz]
          exact c6
        by_cases h1 : nb cs.tail 3 = 1
        · refine iteB (decide_eq_true (by rw [h1])) ?_
          have e6 := k6 _ _ e5 n4r
          have hne : (olr c cs).length ≠ 0 := fun z => hz (List.length_eq_zero_iff.mp z)
          have hlast : (olr c cs) = (olr c cs).dropLast ++ [(olr c cs).getLast?.getD 0] := by
            cases e : (olr c cs).getLast? with
            | none => exact absurd (List.getLast?_eq_none_iff.mp e) hz
            | some z =>
              have e2 := List.dropLast_concat_getLast hz
              have e3 : (olr c cs).getLast hz = z := by
                rw [List.getLast?_eq_some_getLast hz] at e
                exact Option.some.inj e
              rw [e3] at e2
              exact e2.symm
          refine ⟨_, rfl, _, rfl, p4, _, _, .int ((olr c cs).getLast?.getD 0), rfl, rfl, .inl (.inl e6), ?_, ?_⟩
          · have := atI_last ((olr c cs).dropLast.map V.int) (V.int ((olr c cs).getLast?.getD 0))
            rw [← List.map_singleton, ← List.map_append, ← hlast] at this
            exact this
          · refine ⟨_, _, rfl, rfl, _, _, rfl, rfl, (by show (0 : Int) < 256; decide), ?_⟩
            refine ⟨_, rfl, _, rfl, p4, _, -1, (olr c cs).length - 1, rfl, rfl, e6, ?_, rfl, ?_, ?_, ?_, ?_⟩
            · unfold ixN
              rw [if_neg (by decide), List.length_map, if_pos (by omega)]
              congr 1
              omega
            · exact fun a o h n => by
                rw [upd_ne (ne_of_none h np4)]
                exact s6 a o h n
            · obtain ⟨⟨d6, w1⟩, w2⟩ := c7
              exact ⟨⟨d6, by rw [upd_ne nh4]; exact w1⟩, by rw [upd_ne nr4]; exact w2⟩
            · have n24 : p2 ≠ p4 := fun z => by
                have := k4 _ _ e2 n2r
                rw [z, n4] at this
                cases this
              rw [upd_ne n24]
              exact k6 _ _ g5 n2r
            · rw [upd_same, if_pos ⟨hz, h1⟩]
              congr 2
              unfold bump
              conv => lhs; arg 1; rw [hlast]
              rw [List.map_append, List.map_append, List.set_append_right _ _ (by rw [List.length_map, List.length_dropLast]; exact Nat.le_refl _), List.length_map, List.length_dropLast, Nat.sub_self]
              rfl
        · refine iteBF (decide_eq_false fun z => h1 (V.int.inj z)) ⟨rfl, s6, c7, k6 _ _ g5 n2r, ?_⟩
          rw [if_neg (fun z => h1 z.2)]
          exact k6 _ _ e5 n4r
    · rintro σ H6 ⟨rfl, s6, c6, a6, b6⟩
      refine ⟨_, rfl, _, rfl, p2, p4, _, _, rfl, rfl, a6, b6, ?_, fun p np => ?_⟩
      · rw [List.length_map, List.length_map, List.length_take]
        have h1 := olr_len c cs
        refine Nat.le_trans ?_ (by decide : 2000000 ≤ sizeLine)
        split
        · rename_i z
          rw [bump_len z.1]
          omega
        · omega
      · have npH : H p = none := by
          cases e : H p with
          | none => rfl
          | some o =>
            have nrp : p ≠ r := fun z => by rw [z] at np; rw [c6.2] at np; cases np
            have := s6 p o e nrp
            rw [np] at this
            cases this
        refine q _ p (fun a o h n => ?_) ?_ npH ?_
        · rw [upd_ne (ne_of_none h npH)]
          exact s6 a o h n
        · obtain ⟨⟨d6, w1⟩, w2⟩ := c6
          exact ⟨⟨d6, same_new np _ _ w1⟩, same_new np _ _ w2⟩
        · rw [upd_same, ← List.map_append]
          rfl
end
end K2

namespace K2
open PySem L2
def hold (st : DS) (n : Str) (os : List Int) : DS := ⟨st.cs ++ [⟨os, os.length⟩], tput st.tab n st.cs.length, tput st.sure n st.cs.length, st.chg, st.lim, st.done⟩
theorem DkAt.hold {CD CC : Addr} {H H1 : Hp} {d : Addr} {st : DS} {p : DP} (h : DkAt CD CC H d st p) (g : Gd st) {n : Str} {os : List Int} {x l dxc : Addr} (k : ∀ a o, H a = some o → a ≠ p.kd → a ≠ p.sd → H1 a = some o)
    (hx : H1 x = some (.ins CC dxc [("octets", .ref l), ("sure", .int (os.length : Int))])) (hl : H1 l = some (.lst (os.map V.int))) (fx : ¬ foot d p st.cs.length x) (fl : ¬ foot d p st.cs.length l)
    (hk : H1 p.kd = some (.dK (putK (mp (fun i => .ref (p.cas i)) st.tab) (.inr n) (.ref x)))) (hs : H1 p.sd = some (.dK (putK (mp (fun i => .ref (p.cas i)) st.sure) (.inr n) (.ref x)))) : DkAt CD CC H1 d (hold st n os) (p.add st.cs.length x l) := by
  have cas : ∀ i, i < st.cs.length → (p.add st.cs.length x l).cas i = p.cas i := fun i hi => if_neg (Nat.ne_of_lt hi)
  have las : ∀ i, i < st.cs.length → (p.add st.cs.length x l).las i = p.las i := fun i hi => if_neg (Nat.ne_of_lt hi)
  have cn : (p.add st.cs.length x l).cas st.cs.length = x := if_pos rfl
  have ln : (p.add st.cs.length x l).las st.cs.length = l := if_pos rfl
  have el : (K2.hold st n os).cs.length = st.cs.length + 1 := by
    show (st.cs ++ [_]).length = _
    rw [List.length_append]; rfl
  have tabs : ∀ t, TbOk st.cs.length t → putK (mp (fun i => V.ref (p.cas i)) t) (.inr n) (.ref x) = mp (fun i => .ref ((p.add st.cs.length x l).cas i)) (tput t n st.cs.length) := fun t ht => by
    rw [← mp_put (fun i => V.ref ((p.add st.cs.length x l).cas i)), cn]
    congr 1
    exact mp_congr ht fun i hi => by show V.ref _ = V.ref _; rw [cas i hi]
  have nk : ∀ {a u}, H a = some u → (∀ z, u ≠ .dK z) → H1 a = some u := fun ha hu => k _ _ ha (ne_of ha h.con (hu _)) (ne_of ha h.sur (hu _))
  refine ⟨?_, ?_, ?_, ?_, fun j c hc => ?_, h.n1, fun j hj => ?_, fun i j hi hj e => ?_, fun i j hi hj e => ?_⟩
  · obtain ⟨dx, e⟩ := h.inst
    exact ⟨dx, nk e fun _ z => nomatch z⟩
  · exact hk.trans (congrArg (fun z => some (HO.dK z)) (tabs _ g.T))
  · exact hs.trans (congrArg (fun z => some (HO.dK z)) (tabs _ g.S))
  · obtain ⟨xs, e, r⟩ := h.chs
    refine ⟨xs, nk e (fun _ z => nomatch z), ?_⟩
    rw [show (K2.hold st n os).chg.map (ctup (p.add st.cs.length x l).cas) = st.chg.map (ctup p.cas) from List.map_congr_left fun c hc => ctup_congr (g.C c hc) cas]
    exact r.keep fun a r e => nk e fun _ z => nomatch z
  · have hc : (st.cs ++ [⟨os, os.length⟩])[j]? = some c := hc
    rcases Nat.lt_trichotomy j st.cs.length with hj | hj | hj
    · rw [List.getElem?_append_left hj] at hc
      rw [cas j hj, las j hj]
      obtain ⟨dx, e1, e2⟩ := h.cts j c hc
      exact ⟨dx, nk e1 (fun _ z => nomatch z), nk e2 (fun _ z => nomatch z)⟩
    · subst hj
      rw [List.getElem?_append_right (Nat.le_refl _), Nat.sub_self] at hc
      obtain rfl := Option.some.inj hc
      rw [cn, ln]
      exact ⟨dxc, hx, hl⟩
    · rw [List.getElem?_eq_none (by rw [List.length_append]; show st.cs.length + 1 ≤ j; omega)] at hc
      cases hc
  · rw [el] at hj
    rcases Nat.lt_succ_iff_lt_or_eq.mp hj with q | q
    · rw [las j q]; exact h.n2 j q
    · rw [q, ln]
      intro z
      exact fl (.inr (.inr (.inr (.inl z))))
  · rw [el] at hi hj
    rcases Nat.lt_succ_iff_lt_or_eq.mp hi with a | a <;> rcases Nat.lt_succ_iff_lt_or_eq.mp hj with b | b
    · rw [las i a, las j b] at e; exact h.n3 i j a b e
    · rw [las i a, b, ln] at e
      exact absurd (.inr (.inr (.inr (.inr ⟨i, a, .inr e.symm⟩)))) fl
    · rw [las j b, a, ln] at e
      exact absurd (.inr (.inr (.inr (.inr ⟨j, b, .inr e⟩)))) fl
    · omega
  · rw [el] at hi hj
    rcases Nat.lt_succ_iff_lt_or_eq.mp hi with a | a <;> rcases Nat.lt_succ_iff_lt_or_eq.mp hj with b | b
    · rw [cas i a, cas j b] at e; exact h.n4 i j a b e
    · rw [cas i a, b, cn] at e
      exact absurd (.inr (.inr (.inr (.inr ⟨i, a, .inl e.symm⟩)))) fx
    · rw [cas j b, a, cn] at e
      exact absurd (.inr (.inr (.inr (.inr ⟨j, b, .inl e⟩)))) fx
    · omega
section
variable {P : Program} {w : World} {K : PySem.W.Frag} {mg : Str → Option Value} {base : Heap}
def spDInit (CD CC : Addr) : Sp := fun vs H Q _ => ∃ (x dx : Addr), vs = [.ref x] ∧ H x = some (.ins CD dx []) ∧
  ∀ H' p, (∀ c o, H c = some o → c ≠ x → H' c = some o) → H p.kd = none → H p.sd = none → H p.cl = none → DkAt CD CC H' x ds0 p → Q .non H'
theorem scDInit : FnScope ["self"] ["self"] (defScope sDiskInit) := ⟨rfl, rfl, rfl, by decide +kernel, rfl, by decide +kernel, by decide +kernel⟩
theorem ok_dInit {f CD CC : Addr} {fd : FuncData} (F : Fun K "__init__" "Disk.__init__" sDiskInit f fd) (T : KC K CD f CDf) : FnOk P w K mg base CX0 1 f fd ["self"] (spDInit CD CC) := by
  refine F.ok scDInit (fun vs H Q E h => ?_) (fun cdv A outer s H vs Q E hr h => ?_)
  · obtain ⟨x, dx, rfl, _⟩ := h
    rfl
  · obtain ⟨x, dx, rfl, hx, q⟩ := h
    refine ⟨_, pss_cons (ps_fld (pv 0) pe_dnewK rfl) (pss_cons (ps_fld (pv 0) pe_dnewK rfl) (pss_cons (ps_fld (pv 0) (pe_lst pa_nil) rfl) (pss_cons (ps_fld (pv 0) pe_non rfl) (pss_one (ps_fld (pv 0) pe_int rfl))))), ?_⟩
    intro a na
    have nxa : x ≠ a := ne_of_none hx na
    refine ⟨_, rfl, x, CD, dx, _, rfl, by rw [upd_ne nxa]; exact hx, T.cl, T.na _ (by decide +kernel), (by decide), ?_⟩
    intro b nb'
    have nba : b ≠ a := fun z => by rw [z, upd_ne nxa.symm, upd_same] at nb'; cases nb'
    have nbx : b ≠ x := fun z => by rw [z, upd_same] at nb'; cases nb'
    have nb : H b = none := by rw [upd_ne nbx, upd_ne nba] at nb'; exact nb'
    refine ⟨_, rfl, x, CD, dx, _, rfl, by rw [upd_ne nbx.symm, upd_same], T.cl, T.na _ (by decide +kernel), (by show 1 < 1000; decide), ?_⟩
    refine ⟨Nat.zero_le _, fun c nc' => ?_⟩
    have ncx : c ≠ x := fun z => by rw [z, upd_same] at nc'; cases nc'
    have ncb : c ≠ b := fun z => by rw [z, upd_ne nbx, upd_same] at nc'; cases nc'
    have nca : c ≠ a := fun z => by rw [z, upd_ne nxa.symm, upd_ne nba.symm, upd_ne nxa.symm, upd_same] at nc'; cases nc'
    have nc : H c = none := by rw [upd_ne ncx, upd_ne ncb, upd_ne ncx, upd_ne nca] at nc'; exact nc'
    refine ⟨_, rfl, x, CD, dx, _, rfl, by rw [upd_ne ncx.symm, upd_same], T.cl, T.na _ (by decide +kernel), (by show 2 < 1000; decide), ?_⟩
    refine ⟨_, rfl, x, CD, dx, _, rfl, upd_same, T.cl, T.na _ (by decide +kernel), (by show 3 < 1000; decide), ?_⟩
    refine ⟨_, rfl, x, CD, dx, _, rfl, upd_same, T.cl, T.na _ (by decide +kernel), (by show 4 < 1000; decide), ?_⟩
    refine q _ ⟨fun _ => 0, fun _ => 0, a, b, c⟩ (fun e o h n => ?_) na nb nc ⟨⟨dx, upd_same⟩, ?_, ?_, ⟨[], ?_, Rows.nil⟩, (fun i c h => by cases h), nba.symm, fun i h => absurd h (Nat.not_lt_zero _), fun i j h => absurd h (Nat.not_lt_zero _), fun i j h => absurd h (Nat.not_lt_zero _)⟩
    · rw [upd_ne n, upd_ne n, upd_ne n, upd_ne (ne_of_none h nc), upd_ne n, upd_ne (ne_of_none h nb), upd_ne n, upd_ne (ne_of_none h na)]
      exact h
    · show _ = some (HO.dK [])
      rw [upd_ne nxa.symm, upd_ne nxa.symm, upd_ne nxa.symm, upd_ne nca.symm, upd_ne nxa.symm, upd_ne nba.symm, upd_ne nxa.symm, upd_same]
    · show _ = some (HO.dK [])
      rw [upd_ne nbx, upd_ne nbx, upd_ne nbx, upd_ne ncb.symm, upd_ne nbx, upd_same]
    · rw [upd_ne ncx, upd_ne ncx, upd_ne ncx, upd_same]
def spHold (CD CC : Addr) : Sp := fun vs H Q _ => ∃ (d l : Addr) (st : DS) (p : DP) (n : Str) (os : List Int), vs = [.ref d, .str n, .ref l] ∧ DkAt CD CC H d st p ∧ Gd st ∧ H l = some (.lst (os.map V.int)) ∧ ¬ foot d p st.cs.length l ∧
  ∀ H' x, (∀ a o, H a = some o → a ≠ p.kd → a ≠ p.sd → H' a = some o) → H x = none → DkAt CD CC H' d (hold st n os) (p.add st.cs.length x l) → Q .non H'
theorem scHold : FnScope ["self", "name", "octets"] ["self", "name", "octets"] (defScope sDiskHold) := ⟨rfl, rfl, rfl, by decide +kernel, rfl, by decide +kernel, by decide +kernel⟩
theorem ok_hold {f fI fC CD CC : Addr} {fd fdC : FuncData} (F : Fun K "_hold" "Disk._hold" sDiskHold f fd) (N : Nm mg) (T : KC K CD fI CDf) (TC : KC K CC fC CCf) (FC : Fun K "__init__" "Content.__init__" sContentInit fC fdC) (bC : Binds K fdC ["self", "octets"] []) (gCC : mg "Content" = some (.ref CC)) :
    FnOk P w K mg base CX0 3 f fd ["self", "name", "octets"] (spHold CD CC) := by
  have GCI : FnOk P w K mg base CX0 1 fC fdC ["self", "octets"] (spCInit CC) := ok_cInit FC N TC
  refine F.ok scHold (fun vs H Q E h => ?_) (fun cdv A outer s H vs Q E hr h => ?_)
  · obtain ⟨d, l, st, p, n, os, rfl, _⟩ := h
    rfl
  · obtain ⟨d, l, st, p, n, os, rfl, hd, gd, hl, nfl, q⟩ := h
    have hu := hu_of hr
    refine ⟨_, pss_cons (ps_dput hu (pe_fld (pv 0) rfl) (pv 1) (pe_make TC.mkC GCI hr (by rfl) gCC bC .nil pass0 (pa_cons (pv 2) pa_nil)) rfl)
      (pss_one (ps_dput hu (pe_fld (pv 0) rfl) (pv 1) (pe_dget hu (pe_fld (pv 0) rfl) (pv 1) (fun _ _ => rfl)) rfl)), ?_⟩
    obtain ⟨dx, hi⟩ := hd.inst'
    refine ⟨_, rfl, ?_⟩
    intro x dxc nx ndx nex
    have nlx : l ≠ x := ne_of_none hl nx
    have nldx : l ≠ dxc := ne_of_none hl ndx
    refine ⟨x, dxc, l, os.map V.int, rfl, upd_same, by rw [upd_ne nlx, upd_ne nldx]; exact hl, fun H3 k3 hx3 => ⟨rfl, ?_⟩⟩
    have s3 : Same H H3 := mk_same nx ndx k3
    have hd3 := hd.same s3
    obtain ⟨dx3, hi3⟩ := hd3.inst'
    have lt4 : ∀ {t}, TbOk st.cs.length t → (mp (fun i => V.ref (p.cas i)) t).length < sizeLine := fun h => by
      rw [mp_len]
      exact small1000 (by have := h.len; omega)
    have ndk : d ≠ p.kd := ne_of hi3 hd3.con (by intro z; cases z)
    have nds : d ≠ p.sd := ne_of hi3 hd3.sur (by intro z; cases z)
    have nxk : x ≠ p.kd := fun z => by rw [z, hd.con] at nx; cases nx
    have nxs : x ≠ p.sd := fun z => by rw [z, hd.sur] at nx; cases nx
    have nlk : l ≠ p.kd := fun z => nfl (.inr (.inl z))
    have nls : l ≠ p.sd := fun z => nfl (.inr (.inr (.inl z)))
    refine ⟨_, rfl, d, CD, dx3, _, .ref p.kd, rfl, hi3, T.cl, T.na _ (by decide +kernel), rfl, _, rfl, p.kd, _, rfl, DPut.k (k := (Sum.inr n : Key)) hd3.con (lt4 gd.T), ?_⟩
    have hi4 := hi3
    refine ⟨_, rfl, d, CD, dx3, _, .ref p.kd, rfl, by rw [upd_ne ndk]; exact hi3, T.cl, T.na _ (by decide +kernel), rfl, _, rfl, p.kd, .ref x, rfl, ?_, ?_⟩
    · have := DGet.k (H := upd H3 p.kd (.dK (putK (mp (fun i => V.ref (p.cas i)) st.tab) (.inr n) (.ref x)))) (k := (Sum.inr n : Key)) (a := p.kd) upd_same
      rwa [valV_put, if_pos rfl] at this
    · refine ⟨_, rfl, d, CD, dx3, _, .ref p.sd, rfl, by rw [upd_ne ndk]; exact hi3, T.cl, T.na _ (by decide +kernel), rfl, _, rfl, p.sd, _, rfl, DPut.k (k := (Sum.inr n : Key)) (by rw [upd_ne hd.n1.symm]; exact hd3.sur) (lt4 gd.S), ?_⟩
      refine q _ x (fun a o h n1 n2 => ?_) nx ?_
      · rw [upd_ne n2, upd_ne n1]
        exact s3 _ _ h
      · refine hd3.hold gd (fun a o h n1 n2 => ?_) (dxc := dxc) ?_ ?_ (hd.nfree nx) nfl ?_ ?_
        · rw [upd_ne n2, upd_ne n1]
          exact h
        · rw [upd_ne nxs, upd_ne nxk, hx3, List.length_map]
        · rw [upd_ne nls, upd_ne nlk]
          exact s3 _ _ hl
        · rw [upd_ne hd.n1, upd_same]
        · rw [upd_same]
end
end K2

namespace L2
open PySem PySem.Spec PyProof.Rows
section
variable {X : Cx}
/-- name = {..} on one line, the name a local -/
theorem ps_setDc {i : Nat} {y : Str} {py : Pos} {kx vx tg iter : Expr} {ifs : List Expr} {scope : Scope} {own : List (Str × Nat)} {pos spos : Pos} {wi : TI} {g : TG} {tt : TT} {tk tv : TE} (hc : X.calm = true) (hN : X.N.Nodup) (hy : X.N[i]? = some y) (hyl : X.env.scope.names.lookup y = some .local)
    (hsw : swapsWith (.DictComp kx vx [⟨tg, iter, ifs, 0⟩] scope pos) (some (.Name y py)) spos.line X.env = pure true) (hi : PI X tg iter wi) (ok : BlkOk X.N X.env.scope scope own)
    (hg : ∀ (s : Shared) (H : Hp) (C : Addr) (cl : List (Str × Addr)) (fp : List Addr), PG (X.blk s H scope (compEnvC scope cl C X.env) fp) tg g)
    (ht : ∀ (s : Shared) (H : Hp) (C : Addr) (cl : List (Str × Addr)) (fp : List Addr), PTs (X.blk s H scope (compEnvC scope cl C X.env) fp) ifs tt)
    (hk : ∀ (s : Shared) (H : Hp) (C : Addr) (cl : List (Str × Addr)) (fp : List Addr), PE (X.blk s H scope (compEnvC scope cl C X.env) fp) kx tk)
    (he : ∀ (s : Shared) (H : Hp) (C : Addr) (cl : List (Str × Addr)) (fp : List Addr), PE (X.blk s H scope (compEnvC scope cl C X.env) fp) vx tv) (hs : ∀ x, foldedSetIterable iter X.env x = pure x := by intro _; rfl) :
    PS X (.Assign [.Name y py] (.DictComp kx vx [⟨tg, iter, ifs, 0⟩] scope pos) spos) (tAsg (tDc wi g tt tk tv (own.map (·.2))) (gName i)) := by
  refine ⟨fun pins s σ H D I h => ?_⟩
  rw [exec_Assign_Name_used _ _ _ _ hsw]
  refine wpAny_bind (wpAny_standAt (wpAny_bind ?_))
  show wpAny _ X.A (do let _ ← comprehension (.DictComp kx vx [⟨tg, iter, ifs, 0⟩] scope pos) scope X.env (firstIterPos [⟨tg, iter, ifs, 0⟩] pos) newDict false (eval iter X.env) (some (assign (.Name y py) X.env))) _ _ s
  have h : tDc wi g tt tk tv (own.map (·.2)) σ H (fun x H1 => gName i x σ H1 D.nx) := h
  refine wpAny_bind (thn (dc_core (Qf := fun _ s' => SP X pins D .next s') hc hN I hi ok hg ht hk he hs h fun L C s' m H' I' q hn f => ?_) fun _ s' hq => wpAny_pure (wpAny_pure hq))
  show wpAny _ _ (assign (.Name y py) X.env (.ref L)) _ _ _
  refine wpAny_assign_Name (store_ok2 (v := V.ref L) I' hN hy (.inl hyl) rfl (fun s2 I2 ⟨a, sb, ha⟩ => ?_) (.inr hyl))
  obtain ⟨f0, f1, f2, f3, f4, f5⟩ := f
  have haC : C ≠ a := by
    rcases ha with z | z
    · rw [z]; exact f1
    · exact fun e => f4 y a z e.symm
  exact ⟨m, hn.sameBut sb haC, fun h3 sb3 => ⟨_, H', I2.turned (t' := s2.toks) (fun b o hb e => (sb3.2 b hb).trans e) f0 f1 f3 f4 f5, q⟩⟩
theorem sw_trueD {kx vx : Expr} {gs : List Comprehension} {scope : Scope} {pos py : Pos} {y : Str} {l : Nat} {env : Env} (hk : env.scope.kind = .function) (hy : env.scope.names.lookup y = some .local) (hl : (py.line == pos.line) = true)
    (ha : (scope.names.any fun (n, k) => n == y && (k == .local || k == .cell)) = false) : swapsWith (.DictComp kx vx gs scope pos) (some (.Name y py)) l env = pure true := by
  have ky : env.kindOf y = some .local := hy
  have hb : env.blockKind = .function := by unfold Env.blockKind; rw [hk]; rfl
  unfold swapsWith
  simp only [hb, ky, ha, Expr.pos, hl]
  rfl
end
end L2

namespace K2
open PySem L2
/-! ### what is left -/
abbrev Fl := List (Str × List Int)
def cnm (st : DS) (t : Tb) (n : Str) : Cn := ((tget t n).bind fun i => st.cs[i]?).getD ⟨[], 0⟩
def stp (st : DS) (t : Tb) (a : Fl × List Int) (n : Str) : Fl × List Int := (a.1 ++ [(n, olv (cnm st t n) a.2)], olc (cnm st t n) a.2)
def hld (ps : Fl) : DS := ps.foldl (fun a q => hold a q.1 q.2) ds0
def lsK (st : DS) (cs : List Int) : Nat := (nb cs ((st.chg.length : Int) + 1)).toNat
def lsT (st : DS) (cs : List Int) : Tb := run st.sure (st.chg.take (lsK st cs))
def lsN (st : DS) (cs : List Int) : List Str := srt ((lsT st cs).map (·.1))
def lsS (st : DS) (cs : List Int) (k : Nat) : Fl × List Int := ((lsN st cs).take k).foldl (stp st (lsT st cs)) ([], cs.tail)
def lsP (st : DS) (cs : List Int) : Fl := ((lsN st cs).foldl (stp st (lsT st cs)) ([], cs.tail)).1
theorem lsS_succ (st : DS) (cs : List Int) {k : Nat} (h : k < (lsN st cs).length) : lsS st cs (k + 1) = stp st (lsT st cs) (lsS st cs k) (lsN st cs)[k] := by
  unfold lsS
  rw [List.take_add_one, List.getElem?_eq_getElem h, List.foldl_append]
  rfl
theorem lsS_end (st : DS) (cs : List Int) : (lsS st cs (lsN st cs).length).1 = lsP st cs := by
  unfold lsS lsP
  rw [List.take_length]
theorem hld_snoc (ps : Fl) (q : Str × List Int) : hld (ps ++ [q]) = hold (hld ps) q.1 q.2 := by
  unfold hld
  rw [List.foldl_append]
  rfl
theorem snocI {α : Type} {P : List α → Prop} (h0 : P []) (h1 : ∀ l a, P l → P (l ++ [a])) (l : List α) : P l := by
  have : ∀ n (l : List α), l.length = n → P l := fun n => by
    induction n with
    | zero => intro l h; rw [List.length_eq_zero_iff.mp h]; exact h0
    | succ n ih =>
      intro l h
      have hne : l ≠ [] := fun z => by rw [z] at h; cases h
      rw [← List.dropLast_concat_getLast hne]
      exact h1 _ _ (ih _ (by rw [List.length_dropLast]; omega))
  exact this _ l rfl
theorem hld_ok (ps : Fl) : (hld ps).sure = (hld ps).tab ∧ (hld ps).chg = [] ∧ (hld ps).lim = none ∧ (hld ps).done = 0 ∧ (hld ps).cs = ps.map fun q => ⟨q.2, q.2.length⟩ := by
  refine snocI (P := fun ps => (hld ps).sure = (hld ps).tab ∧ (hld ps).chg = [] ∧ (hld ps).lim = none ∧ (hld ps).done = 0 ∧ (hld ps).cs = ps.map fun q => ⟨q.2, q.2.length⟩) ⟨rfl, rfl, rfl, rfl, rfl⟩ (fun l a h => ?_) ps
  obtain ⟨h1, h2, h3, h4, h5⟩ := h
  rw [hld_snoc]
  refine ⟨?_, h2, h3, h4, ?_⟩
  · show tput (hld l).sure _ _ = tput (hld l).tab _ _
    rw [h1]
  · show (hld l).cs ++ [_] = _
    rw [h5, List.map_append]
    rfl
theorem Gd.hold {st : DS} (g : Gd st) (hs : st.sure = st.tab) (hc : st.chg = []) {n : Str} (hn : n ∈ NM) (os : List Int) : Gd (K2.hold st n os) := by
  have el : (K2.hold st n os).cs.length = st.cs.length + 1 := by
    show (st.cs ++ [_]).length = _
    rw [List.length_append]; rfl
  refine ⟨?_, ?_, ?_, ?_, ?_⟩
  · rw [el]; exact (g.T.mono (Nat.le_succ _)).put hn (Nat.lt_succ_self _)
  · rw [el]; exact (g.S.mono (Nat.le_succ _)).put hn (Nat.lt_succ_self _)
  · show ∀ c ∈ st.chg, _
    rw [hc]
    exact fun c h => absurd h List.not_mem_nil
  · show tput st.tab n _ = run (tput st.sure n _) st.chg
    rw [hc, hs]
    rfl
  · show ∀ j c, st.chg[j]? = some c → _
    rw [hc]
    intro j c h
    simp at h
theorem gd0 : Gd ds0 := ⟨TbOk.nil _, TbOk.nil _, fun c h => absurd h List.not_mem_nil, rfl, fun j c h => by simp [ds0] at h⟩
theorem hld_gd (ps : Fl) (h : ∀ q ∈ ps, q.1 ∈ NM) : Gd (hld ps) := by
  revert h
  refine snocI (P := fun ps => (∀ q ∈ ps, q.1 ∈ NM) → Gd (hld ps)) (fun _ => gd0) (fun l a ih h => ?_) ps
  rw [hld_snoc]
  obtain ⟨h1, h2, _⟩ := hld_ok l
  exact (ih fun q hq => h q (List.mem_append_left _ hq)).hold h1 h2 (h a (List.mem_append_right _ List.mem_cons_self)) _
theorem fold_fst (st : DS) (t : Tb) (ns : List Str) (cs : List Int) : ((ns.foldl (stp st t) (([], cs) : Fl × List Int)).1).map (fun q : Str × List Int => q.1) = ns := by
  refine snocI (P := fun ns => ((ns.foldl (stp st t) (([], cs) : Fl × List Int)).1).map (fun q : Str × List Int => q.1) = ns) rfl (fun l a h => ?_) ns
  rw [List.foldl_append]
  show ((l.foldl (stp st t) (([], cs) : Fl × List Int)).1 ++ [(a, _)]).map (fun q : Str × List Int => q.1) = _
  rw [List.map_append, h]
  rfl
theorem lsS_names (st : DS) (cs : List Int) (k : Nat) : ((lsS st cs k).1).map (fun q : Str × List Int => q.1) = (lsN st cs).take k := fold_fst _ _ _ _
theorem lsT_ok {st : DS} (g : Gd st) (cs : List Int) : TbOk st.cs.length (lsT st cs) := g.S.run fun c hc => g.C c (List.mem_of_mem_take hc)
theorem lsS_nm {st : DS} (g : Gd st) (cs : List Int) (k : Nat) : ∀ q ∈ (lsS st cs k).1, q.1 ∈ NM := fun q hq => by
  have : q.1 ∈ (lsN st cs).take k := by
    rw [← lsS_names]
    exact List.mem_map.mpr ⟨q, hq, rfl⟩
  obtain ⟨p, hp, e⟩ := List.mem_map.mp (srt_mem (List.mem_of_mem_take this))
  rw [← e]
  exact (lsT_ok g cs).nm p hp
section
variable {P : Program} {w : World} {K : PySem.W.Frag} {mg : Str → Option Value} {base : Heap}
def spLose (K : PySem.W.Frag) (CD CC : Addr) : Sp := fun vs H Q _ => ∃ (d l : Addr) (st : DS) (p : DP) (cs : List Int), vs = [.ref d, .ref l] ∧ DkAt CD CC H d st p ∧ Gd st ∧ (∀ c ∈ st.cs, c.o.length ≤ 1000000) ∧ st.chg.length ≤ 900 ∧ H l = some (.lst (cs.map V.int)) ∧
  ∀ H' d2 p2, Same H H' → DkAt CD CC H' d2 (hld (lsP st cs)) p2 → (∀ a, foot d2 p2 (hld (lsP st cs)).cs.length a → H a = none) → Q (.ref d2) H'
theorem scLose : FnScope ["self", "choices", "left", "name", "contents", "change", "disk"] ["self", "choices"] (defScope sDiskLose) := ⟨rfl, rfl, rfl, by decide +kernel, rfl, by decide +kernel, by decide +kernel⟩
structure LoseF (P : Program) (w : World) (K : PySem.W.Frag) (mg : Str → Option Value) (base : Heap) (CD CC CH : Addr) where
  (fHI fNB fCN fOL fDI fHo : Addr)
  (dHI dNB dCN dOL dDI dHo : FuncData)
  GHI : FnOk P w K mg base CX0 1 fHI dHI ["self", "choices"] (spHInit K CH)
  bHI : Binds K dHI ["self", "choices"] []
  GNB : FnOk P w K mg base CX0 1 fNB dNB ["self", "bound"] (spNB CH)
  bNB : Binds K dNB ["self", "bound"] []
  mNB : Meth K CH "next_below" fNB
  GCN : FnOk P w K mg base CX0 1 fCN dCN ["contents", "change"] spCN
  bCN : Binds K dCN ["contents", "change"] []
  kCN : PySem.W.keepIn K (.ref fCN) = true
  gCN : mg "change_names" = some (.ref fCN)
  GOL : FnOk P w K mg base CX0 2 fOL dOL ["content", "choices"] (spOL CC CH)
  bOL : Binds K dOL ["content", "choices"] []
  kOL : PySem.W.keepIn K (.ref fOL) = true
  gOL : mg "octets_left" = some (.ref fOL)
  GDI : FnOk P w K mg base CX0 1 fDI dDI ["self"] (spDInit CD CC)
  bDI : Binds K dDI ["self"] []
  GHo : FnOk P w K mg base CX0 3 fHo dHo ["self", "name", "octets"] (spHold CD CC)
  bHo : Binds K dHo ["self", "name", "octets"] []
  mHo : Meth K CD "_hold" fHo
  gCH : mg "Choices" = some (.ref CH)
  gCD : mg "Disk" = some (.ref CD)
  MH : Mk K CH fHI
  MD : Mk K CD fDI
  clH : Cls K CH
theorem ok_lose {f fI CD CC CH : Addr} {fd : FuncData} (F : Fun K "lose" "Disk.lose" sDiskLose f fd) (N : Nm mg) (T : KC K CD fI CDf) (Z : LoseF P w K mg base CD CC CH) : FnOk P w K mg base CX0 4 f fd ["self", "choices"] (spLose K CD CC) := by
  have GHI := Z.GHI
  have GNB := Z.GNB
  have GCN := Z.GCN
  have GOL := Z.GOL
  have GDI := Z.GDI
  have GHo := Z.GHo
  refine F.ok scLose (fun vs H Q E h => ?_) (fun cdv A outer s H vs Q E hr h => ?_)
  · obtain ⟨d, l, st, p, cs, rfl, _⟩ := h
    rfl
  · obtain ⟨d, l, st, p, cs, rfl, hd, gd, hco, hch, hl, q⟩ := h
    have hu := hu_of hr
    have hr1 := hr.mono (j := 1) (by decide)
    have hr2 := hr.mono (j := 2) (by decide)
    refine ⟨_, pss_cons (ps_set (i := 2) scLose.nd rfl (.inl rfl) (pe_make Z.MH GHI hr2 (by rfl) Z.gCH Z.bHI .nil pass0 (pa_cons (pv 1) pa_nil)))
      (pss_cons (ps_lock (ps_setDc (i := 4) (own := [("name", 3)]) (g := gName 3) (tt := tYes) rfl scLose.nd rfl rfl (sw_trueD rfl rfl rfl (by decide +kernel)) (pi_keys (pe_fld (pv 0) rfl))
          (blkOk_by (N := ["self", "choices", "left", "name", "contents", "change", "disk"]) (sc := defScope sDiskLose) (by decide +kernel))
          (fun _ _ _ _ _ => pg_name (i := 3) scLose.nd rfl (Or.inl rfl)) (fun _ _ _ _ _ => pts_nil) (fun _ _ _ _ _ => pv 3) (fun _ _ _ _ _ => pe_dget hu (pe_fldK K rfl (pv 0) rfl) (pv 3) (fun _ _ => rfl))))
      (Evl.pss_cut (ps_for PassesOwn.never rfl (pi_list (pe_slice sl_list (pe_fld (pv 0) rfl) po_none (po_some (pe_meth (pv 2) Z.clH Z.mNB GNB hr1 Z.bNB .nil pass0 (pa_cons (pe_op op_add (pe_callB call_len_seq (by rfl) N.len PySem.boot_len (pa_cons (pe_fld (pv 0) rfl) pa_nil)) pe_int) pa_nil)))))
          (pg_name (i := 5) scLose.nd rfl (.inl rfl)) (pss_one (ps_expr (pe_call GCN hr1 (by rfl) Z.gCN Z.kCN Z.bCN .nil pass0 (pa_cons (pv 4) (pa_cons (pv 5) pa_nil))))))
      (pss_cons (ps_set (i := 6) scLose.nd rfl (.inl rfl) (pe_make0 Z.MD GDI hr2 (by rfl) Z.gCD Z.bDI .nil pass0))
      (pss_cons (ps_for PassesOwn.never rfl (pi_list (pe_callB (call_sortedD rfl) (by rfl) N.sorted (by decide +kernel) (pa_cons (pv 4) pa_nil))) (pg_name (i := 3) scLose.nd rfl (.inl rfl))
          (pss_one (ps_expr (pe_meth (pv 6) T.cl Z.mHo GHo hr Z.bHo .nil pass0 (pa_cons (pv 3) (pa_cons (pe_call GOL hr2 (by rfl) Z.gOL Z.kOL Z.bOL .nil pass0 (pa_cons (pe_dget hu (pv 4) (pv 3) (fun _ _ => rfl)) (pa_cons (pv 2) pa_nil))) pa_nil))))))
      (pss_one (ps_ret (pv 6))))))), ?_⟩
    obtain ⟨dx, hi⟩ := hd.inst'
    refine ⟨_, rfl, ?_⟩
    intro h dh nh ndh neh
    have nlh : l ≠ h := ne_of_none hl nh
    have nldh : l ≠ dh := ne_of_none hl ndh
    refine ⟨h, dh, l, cs, rfl, upd_same, .inl (.inl (by rw [upd_ne nlh, upd_ne nldh]; exact hl)), fun H1 r k1 nr c1 => ⟨rfl, ?_⟩⟩
    have s1 : Same H H1 := mk_same nh ndh k1
    have nr0 : H r = none := by
      have e1 : r ≠ h := fun z => by rw [z, upd_same] at nr; cases nr
      rw [upd_ne e1] at nr
      have e2 : r ≠ dh := fun z => by rw [z, upd_same] at nr; cases nr
      rw [upd_ne e2] at nr
      exact nr
    have hd1 := hd.same s1
    have hi1 := s1 _ _ hi
    have nds : d ≠ p.sd := ne_of hi1 hd1.sur (by intro z; cases z)
    refine ⟨p.sd, _, hd1.sur, trivial, fun od => ?_⟩
    have hiL : (upd H1 p.sd (.frz od (.dK (mp (fun i => .ref (p.cas i)) st.sure)))) d = some (.ins CD dx [("_contents", .ref p.kd), ("_sure_contents", .ref p.sd), ("_changes", .ref p.cl), ("_allowed", limV st.lim), ("_done", .int (st.done : Int))]) := by
      rw [upd_ne nds]; exact hi1
    refine ⟨_, rfl, d, CD, dx, _, .ref p.sd, rfl, hiL, T.cl, T.na _ (by decide +kernel), rfl, p.sd, od, rfl, .inl ⟨_, upd_same, fun C nC => ?_⟩⟩
    refine dc_tab (h := fun i => .ref (p.cas i)) (t := st.sure) (σ := [some (.ref d), some (.ref l), some (.ref h), none, none, none, none]) upd_same nC gd.S.nd (by have := gd.S.len; omega) (by show 3 < 7; decide) (fun _ => rfl) (fun H2 a i R sm ha r => ?_) (fun H2 sm hC => ?_)
    · refine ⟨_, rfl, d, CD, dx, _, .ref p.sd, rfl, sm _ _ hiL, T.cl, T.na _ (by decide +kernel), rfl, _, rfl, p.sd, .ref (p.cas i), rfl, ?_, r⟩
      refine .inl ⟨_, (Sum.inr a : Key), .inr ⟨od, sm _ _ upd_same⟩, rfl, ?_⟩
      rw [mp_get, ha]
      rfl
    refine ⟨sm _ _ upd_same, ?_⟩
    have nCs : C ≠ p.sd := fun z => by rw [z, upd_same] at nC; cases nC
    have nC1 : H1 C = none := by rw [upd_ne nCs] at nC; exact nC
    have s13 := same_lock hd1.sur sm
    have hC3 : (upd H2 p.sd (.dK (mp (fun i => .ref (p.cas i)) st.sure))) C = some (.dK (mp (fun i => .ref (p.cas i)) st.sure)) := by rw [upd_ne nCs]; exact hC
    generalize (upd H2 p.sd (.dK (mp (fun i => .ref (p.cas i)) st.sure))) = H3 at s13 hC3
    have c3 : ChAt CH H3 h r cs := by
      obtain ⟨⟨d1, z1⟩, z2⟩ := c1
      exact ⟨⟨d1, s13 _ _ z1⟩, s13 _ _ z2⟩
    have s3 : Same H H3 := s1.trans s13
    have nC0 : H C = none := s1.free nC1
    have nCr : C ≠ r := ne_of hC3 c3.2 (by intro z; cases z)
    refine ⟨fun σ H5 => ∃ y5, σ = [some (.ref d), some (.ref l), some (.ref h), none, some (.ref C), y5, none] ∧ Same H H5 ∧ H5 C = some (.dK (mp (fun i => .ref (p.cas i)) (lsT st cs))) ∧ ChAt CH H5 h r cs.tail, ?_, ?_⟩
    · obtain ⟨xs, hx, hrow⟩ := (hd.same s3).chs
      obtain ⟨⟨dh3, hh3⟩, hr3⟩ := id c3
      have hlen : xs.length = st.chg.length := by
        have := hrow.1
        rwa [List.length_map] at this
      refine ⟨_, rfl, d, CD, dx, _, .ref p.cl, rfl, s3 _ _ hi, T.cl, T.na _ (by decide +kernel), rfl, _, rfl, h, dh3, _, rfl, hh3, rfl, _, rfl, d, CD, dx, _, .ref p.cl, rfl, s3 _ _ hi, T.cl, T.na _ (by decide +kernel), rfl, p.cl, xs, rfl, .inl (.inl (.inl hx)), _, _, rfl, rfl, ?_⟩
      rw [hlen]
      have hb : 0 < (st.chg.length : Int) + 1 := by omega
      refine ⟨h, r, _, cs, rfl, hb, c3, fun H4 k4 c4 => ?_⟩
      have nclr : p.cl ≠ r := fun z => by rw [z] at hx; have := (hd.chs); obtain ⟨_, e, _⟩ := this; rw [z, nr0] at e; cases e
      refine ⟨_, rfl, p.cl, xs, rfl, .inl (.inl (k4 _ _ hx nclr)), fun L nL => ?_⟩
      have ek : nb cs ((st.chg.length : Int) + 1) = ((lsK st cs : Nat) : Int) := by
        unfold lsK
        have := nb_nn cs hb
        omega
      have kl : lsK st cs ≤ st.chg.length := by
        have := nb_lt cs hb
        have := nb_nn cs hb
        unfold lsK
        omega
      rw [ek, cut0]
      have s4 : Same H H4 := fun a o e => k4 _ _ (s3 _ _ e) fun z => by rw [z, nr0] at e; cases e
      have s5 : Same H (upd H4 L (.lst (xs.take (lsK st cs)))) := s4.trans (same_new nL)
      have c5 : ChAt CH (upd H4 L (.lst (xs.take (lsK st cs)))) h r cs.tail := by
        obtain ⟨⟨d1, z1⟩, z2⟩ := c4
        exact ⟨⟨d1, same_new nL _ _ z1⟩, same_new nL _ _ z2⟩
      have hC5 : (upd H4 L (.lst (xs.take (lsK st cs)))) C = some (.dK (mp (fun i => .ref (p.cas i)) st.sure)) := same_new nL _ _ (k4 _ _ hC3 nCr)
      have hL5 : (upd H4 L (.lst (xs.take (lsK st cs)))) L = some (.lst (xs.take (lsK st cs))) := upd_same
      have nLC : L ≠ C := ne_of hL5 hC5 (by intro z; cases z)
      have rw5 := (hrow.keep (H1 := upd H4 L (.lst (xs.take (lsK st cs)))) fun a r2 e => same_new nL _ _ (k4 _ _ e fun z => by rw [z, hr3] at e; cases e)).take (lsK st cs)
      generalize (upd H4 L (.lst (xs.take (lsK st cs)))) = H5 at s5 c5 hC5 hL5 rw5
      have xl : (xs.take (lsK st cs)).length = lsK st cs := by rw [List.length_take, hlen]; omega
      refine ⟨L, rfl, ⟨_, .inl (.inl hL5)⟩, for_it (walk_list (xs := xs.take (lsK st cs))) (fun i σ H6 => ∃ y5, σ = [some (.ref d), some (.ref l), some (.ref h), none, some (.ref C), y5, none] ∧ (∀ a o, H5 a = some o → a ≠ C → H6 a = some o) ∧ H6 C = some (.dK (mp (fun i => .ref (p.cas i)) (run st.sure (st.chg.take i))))) ?_ ?_ ?_ ?_⟩
      · exact ⟨none, rfl, fun a o e _ => e, hC5⟩
      · rintro i σ H6 hi6 ⟨y5, rfl, k6, _⟩
        exact .inl (.inl (k6 _ _ hL5 nLC))
      · rintro i x σ H6 H6' hi6 ⟨y5, rfl, k6, hC6⟩ ⟨rfl, hxi⟩
        rw [xl] at hi6
        have hic : i < st.chg.length := by omega
        obtain ⟨t, e1, e2⟩ := rw5.2 i (ctup p.cas st.chg[i]) (by rw [List.getElem?_take_of_lt hi6, List.getElem?_map, List.getElem?_eq_getElem hic]; rfl)
        obtain rfl : x = .ref t := Option.some.inj (hxi.symm.trans e1)
        have ntC : t ≠ C := ne_of e2 hC5 (by intro z; cases z)
        refine ⟨_, rfl, _, rfl, C, t, p.cas, run st.sure (st.chg.take i), st.chg[i], rfl, k6 _ _ e2 ntC, hC6, gd.O i _ (List.getElem?_eq_getElem hic), ?_, fun H7 k7 hC7 => ⟨_, rfl, fun a o e n => k7 _ _ (k6 _ _ e n) n, ?_⟩⟩
        · have := (gd.S.run (cs := st.chg.take i) fun c hc => gd.C c (List.mem_of_mem_take hc)).len
          omega
        · rw [hC7, List.take_add_one, List.getElem?_eq_getElem hic]
          show _ = some (HO.dK (mp _ (run st.sure (st.chg.take i ++ [st.chg[i]]))))
          rw [run_snoc]
      · rintro σ H6 ⟨y5, rfl, k6, hC6⟩
        rw [xl] at hC6
        refine ⟨y5, rfl, (fun a o e => k6 _ _ (s5 _ _ e) fun z => by rw [z, nC0] at e; cases e), hC6, ?_⟩
        obtain ⟨⟨d1, z1⟩, z2⟩ := c5
        refine ⟨⟨d1, k6 _ _ z1 (ne_of z1 hC5 (by intro z; cases z))⟩, k6 _ _ z2 nCr.symm⟩
    · rintro σ H5 ⟨y5, rfl, s5, hC5, c5⟩
      intro d2 dx2 nd2 ndx2 nd2e
      have nCd : C ≠ d2 := ne_of_none hC5 nd2
      refine ⟨d2, dx2, rfl, upd_same, fun H6 p2 k6 n1 n2 n3 hd6 => ⟨rfl, ?_⟩⟩
      have s6 : Same H5 H6 := mk_same nd2 ndx2 k6
      have s06 : Same H H6 := s5.trans s6
      have nd20 : H d2 = none := s5.free nd2
      have fr : ∀ {a}, (upd (upd H5 dx2 (.own d2)) d2 (.ins CD dx2 [])) a = none → H5 a = none ∧ a ≠ d2 := fun {a} e => by
        have e1 : a ≠ d2 := fun z => by rw [z, upd_same] at e; cases e
        rw [upd_ne e1] at e
        have e2 : a ≠ dx2 := fun z => by rw [z, upd_same] at e; cases e
        rw [upd_ne e2] at e
        exact ⟨e, e1⟩
      have hC6 := s6 _ _ hC5
      have tok := lsT_ok gd cs
      refine ⟨_, rfl, C, _, (lsT st cs).map (·.1), rfl, Rd.of hC6, mp_keys _ _, (by rw [List.length_map]; have := tok.len; omega), fun ys L2 pm sr nL2 => ?_⟩
      rw [show ys = lsN st cs from tok.srt pm sr]
      have nL20 : H L2 = none := s06.free nL2
      have nL25 : H5 L2 = none := s6.free nL2
      have s7 : Same H6 (upd H6 L2 (.lst ((lsN st cs).map V.str))) := same_new nL2
      have hd7 := hd6.same s7
      have hL7 : (upd H6 L2 (.lst ((lsN st cs).map V.str))) L2 = some (.lst ((lsN st cs).map V.str)) := upd_same
      have hC7 := s7 _ _ hC6
      have s57 : Same H5 _ := s6.trans s7
      have c7 : ChAt CH (upd H6 L2 (.lst ((lsN st cs).map V.str))) h r cs.tail := by
        obtain ⟨⟨d1, z1⟩, z2⟩ := c5
        exact ⟨⟨d1, s57 _ _ z1⟩, s57 _ _ z2⟩
      have f7 : ∀ a, foot d2 p2 0 a → H5 a = none ∧ a ≠ L2 := fun a f => by
        rcases f with z | z | z | z | ⟨i, hi, _⟩
        · rw [z]; exact ⟨nd2, fun e => by rw [← e] at nL2; obtain ⟨d1, e1⟩ := hd6.inst; rw [nL2] at e1; cases e1⟩
        · rw [z]; exact ⟨(fr n1).1, fun e => by rw [← e, hd6.con] at nL2; cases nL2⟩
        · rw [z]; exact ⟨(fr n2).1, fun e => by rw [← e, hd6.sur] at nL2; cases nL2⟩
        · rw [z]; exact ⟨(fr n3).1, fun e => by obtain ⟨xs, e1, _⟩ := hd6.chs; rw [← e, e1] at nL2; cases nL2⟩
        · exact absurd hi (Nat.not_lt_zero _)
      have s07 : Same H _ := s5.trans s57
      generalize (upd H6 L2 (.lst ((lsN st cs).map V.str))) = H7 at s7 hd7 hL7 hC7 s57 c7 s07
      have nl : (lsN st cs).length ≤ 62 := by
        unfold lsN
        rw [srt_len, List.length_map]
        have := tok.len
        omega
      refine ⟨L2, rfl, ⟨_, .inl (.inl hL7)⟩, for_it (walk_list (xs := (lsN st cs).map V.str)) (fun i σ H8 => ∃ y3 p3, σ = [some (.ref d), some (.ref l), some (.ref h), y3, some (.ref C), y5, some (.ref d2)] ∧ Same H H8 ∧ H8 C = some (.dK (mp (fun i => .ref (p.cas i)) (lsT st cs))) ∧ H8 L2 = some (.lst ((lsN st cs).map V.str)) ∧
        ChAt CH H8 h r (lsS st cs i).2 ∧ DkAt CD CC H8 d2 (hld (lsS st cs i).1) p3 ∧ ∀ a, foot d2 p3 (hld (lsS st cs i).1).cs.length a → H a = none ∧ a ≠ C ∧ a ≠ L2 ∧ a ≠ r ∧ a ≠ h) ?_ ?_ ?_ ?_⟩
      · refine ⟨none, p2, rfl, s07, hC7, hL7, c7, hd7, fun a f => ?_⟩
        obtain ⟨z1, z2⟩ := f7 a f
        exact ⟨s5.free z1, fun e => (by rw [e, hC5] at z1; cases z1), z2, fun e => (by rw [e, c5.2] at z1; cases z1), fun e => (by obtain ⟨⟨d1, w1⟩, _⟩ := c5; rw [e, w1] at z1; cases z1)⟩
      · rintro i σ H8 hi8 ⟨y3, p3, rfl, _, _, hL8, _⟩
        exact .inl (.inl hL8)
      · rintro i x σ H8 H8' hi8 ⟨y3, p3, rfl, s8, hC8, hL8, c8, hd8, f8⟩ ⟨rfl, hxi⟩
        rw [List.length_map] at hi8
        rw [List.getElem?_map, List.getElem?_eq_getElem hi8] at hxi
        obtain rfl := Option.some.inj hxi
        generalize hn : (lsN st cs)[i] = n at *
        have hnm : n ∈ lsN st cs := by rw [← hn]; exact List.getElem_mem hi8
        obtain ⟨j, hj⟩ := tget_some (srt_mem hnm)
        have hjl : j < st.cs.length := tok.ix _ (tget_mem hj)
        have hcj := List.getElem?_eq_getElem hjl
        have ecn : cnm st (lsT st cs) n = st.cs[j] := by
          unfold cnm
          rw [hj]
          show (st.cs[j]?).getD _ = _
          rw [hcj]
          rfl
        obtain ⟨dxj, e1, e2⟩ := (hd.same s8).cts j _ hcj
        obtain ⟨dx8, hi8'⟩ := hd8.inst'
        have hg : DGet H8' C (.str n) (some (.ref (p.cas j))) := by
          have := DGet.k (k := (Sum.inr n : Key)) hC8
          rw [mp_get, hj] at this
          exact this
        have e20 := (hd.cts j _ hcj)
        obtain ⟨dxj0, e10, e20⟩ := e20
        have nlr : p.las j ≠ r := fun z => by rw [z, nr0] at e20; cases e20
        refine ⟨_, rfl, d2, dx8, _, rfl, hi8', rfl, _, rfl, _, rfl, _, rfl, C, _, rfl, hg, _, rfl, p.cas j, dxj, p.las j, h, r, st.cs[j], (lsS st cs i).2, rfl, e1, e2, nlr, hco _ (List.getElem_mem hjl), c8, fun H9 q9 k9 c9 nq hq => ?_⟩
        have ar : ∀ {a : Addr} {o : HO}, H8' a = some o → (∀ z, o ≠ .lst z) → H9 a = some o := fun ha ho => k9 _ _ ha (ne_of ha c8.2 (ho _))
        have hd9 : DkAt CD CC H9 d2 (hld (lsS st cs i).1) p3 := hd8.keep fun a o e z => by
          refine k9 _ _ e ?_
          rcases z with f | ⟨r2, rfl⟩
          · exact (f8 a f).2.2.2.1
          · exact ne_of e c8.2 (by intro z; cases z)
        have gd9 := hld_gd _ (lsS_nm gd cs i)
        refine ⟨d2, q9, hld (lsS st cs i).1, p3, n, _, rfl, hd9, gd9, hq, hd8.nfree nq, fun H10 x10 k10 nx hd10 => ⟨_, p3.add (hld (lsS st cs i).1).cs.length x10 q9, rfl, ?_⟩⟩
        have ne9 : ∀ {a : Addr} {o : HO}, H9 a = some o → a ≠ x10 := fun ha z => by rw [z, nx] at ha; cases ha
        have nkd : ∀ {a : Addr}, (a = C ∨ a = L2 ∨ a = r ∨ a = h ∨ H a ≠ none) → a ≠ p3.kd ∧ a ≠ p3.sd := fun {a} z => by
          have h1 := f8 p3.kd (.inr (.inl rfl))
          have h2 := f8 p3.sd (.inr (.inr (.inl rfl)))
          refine ⟨fun e => ?_, fun e => ?_⟩
          · rw [← e] at h1
            rcases z with z | z | z | z | z
            · exact h1.2.1 z
            · exact h1.2.2.1 z
            · exact h1.2.2.2.1 z
            · exact h1.2.2.2.2 z
            · exact z h1.1
          · rw [← e] at h2
            rcases z with z | z | z | z | z
            · exact h2.2.1 z
            · exact h2.2.2.1 z
            · exact h2.2.2.2.1 z
            · exact h2.2.2.2.2 z
            · exact z h2.1
        have go : ∀ {a : Addr} {o : HO}, H9 a = some o → (a = C ∨ a = L2 ∨ a = r ∨ a = h ∨ H a ≠ none) → H10 a = some o := fun ha z => k10 _ _ ha (nkd z).1 (nkd z).2
        have nL2r : L2 ≠ r := fun z => by rw [z, c5.2] at nL25; cases nL25
        have hC9 : H9 C = some _ := k9 _ _ hC8 nCr
        have hL9 : H9 L2 = some _ := k9 _ _ hL8 nL2r
        have es : lsS st cs (i + 1) = ((lsS st cs i).1 ++ [(n, olv st.cs[j] (lsS st cs i).2)], olc st.cs[j] (lsS st cs i).2) := by
          rw [lsS_succ st cs hi8, hn]
          unfold stp
          rw [ecn]
        have s9 : Same H H9 := fun a o e => k9 _ _ (s8 _ _ e) fun z => by rw [z, nr0] at e; cases e
        have n80 : ∀ {a}, H8' a = none → H a = none := fun e => s8.free e
        refine ⟨fun a o e => go (s9 _ _ e) (.inr (.inr (.inr (.inr fun z => by rw [z] at e; cases e)))), go hC9 (.inl rfl), go hL9 (.inr (.inl rfl)), ?_, ?_, ?_⟩
        · rw [es]
          obtain ⟨⟨d1, z1⟩, z2⟩ := c9
          exact ⟨⟨d1, go z1 (.inr (.inr (.inr (.inl rfl))))⟩, go z2 (.inr (.inr (.inl rfl)))⟩
        · rw [es, hld_snoc]
          exact hd10
        · rw [es, hld_snoc]
          intro a f
          have el : (hold (hld (lsS st cs i).1) n (olv st.cs[j] (lsS st cs i).2)).cs.length = (hld (lsS st cs i).1).cs.length + 1 := by
            show ((hld (lsS st cs i).1).cs ++ [_]).length = _
            rw [List.length_append]; rfl
          have f : foot d2 (p3.add (hld (lsS st cs i).1).cs.length x10 q9) ((hld (lsS st cs i).1).cs.length + 1) a := by rw [← el]; exact f
          rcases foot_add f with z | z | z
          · exact f8 a z
          · rw [z]
            obtain ⟨⟨d1, w1⟩, w2⟩ := c9
            exact ⟨s9.free nx, (ne9 hC9).symm, (ne9 hL9).symm, (ne9 w2).symm, (ne9 w1).symm⟩
          · rw [z]
            obtain ⟨⟨d1, w1⟩, w2⟩ := c8
            refine ⟨n80 nq, ?_, ?_, ?_, ?_⟩ <;> intro e <;> rw [e] at nq
            · rw [hC8] at nq; cases nq
            · rw [hL8] at nq; cases nq
            · rw [w2] at nq; cases nq
            · rw [w1] at nq; cases nq
      · rintro σ H8 ⟨y3, p3, rfl, s8, hC8, hL8, c8, hd8, f8⟩
        rw [List.length_map, lsS_end] at hd8 f8
        exact ⟨_, rfl, q H8 d2 p3 s8 hd8 fun a f => (f8 a f).1⟩
end
end K2

namespace K2
open PySem L2
def SAt (H : Hp) (S : Addr) : Prop := ∃ x y : Int, H S = some (.lst [.int x, .int y])
theorem SqL.keepS {K : PySem.W.Frag} {H H1 : Hp} {a : Addr} {xs : List V} (h : SqL K H a xs) (k : ∀ o, H a = some o → H1 a = some o) : SqL K H1 a xs := by
  rcases h with (h | ⟨o, h⟩) | h
  · exact .inl (.inl (k _ h))
  · exact .inl (.inr ⟨o, k _ h⟩)
  · exact .inr h
section
variable {P : Program} {w : World} {K : PySem.W.Frag} {mg : Str → Option Value} {base : Heap}
def spDraw (K : PySem.W.Frag) : Sp := fun vs H Q _ => ∃ (S scr : Addr) (b : Int) (ns : List Int), vs = [.ref S, .ref scr, .int b] ∧ 0 < b ∧ b < 1000000 ∧ SAt H S ∧ SqL K H scr (ns.map V.int) ∧
  ∀ H' v, (∀ a o, H a = some o → a ≠ S → H' a = some o) → SAt H' S → 0 ≤ v → v < b → Q (.int v) H'
theorem scDraw : FnScope ["state", "script", "size", "cell", "digit"] ["state", "script", "size"] (defScope sDraw) := ⟨rfl, rfl, rfl, by decide +kernel, rfl, by decide +kernel, by decide +kernel⟩
theorem ok_draw {f : Addr} {fd : FuncData} (F : Fun K "_law_draw" "_law_draw" sDraw f fd) (N : Nm mg) : FnOk P w K mg base CX0 1 f fd ["state", "script", "size"] (spDraw K) := by
  refine F.ok scDraw (fun vs H Q E h => ?_) (fun cdv A outer s H vs Q E hr h => ?_)
  · obtain ⟨S, scr, b, ns, rfl, _⟩ := h
    rfl
  · obtain ⟨S, scr, b, ns, rfl, b0, b1, ⟨x, y, hS⟩, hs, q⟩ := h
    refine ⟨_, Evl.pss_cut (ps_if (pt_cmpR op_eq (pe_ix ix_list (pv 0) pe_int (fun _ _ => rfl)) pe_int (nomark _))
        (pss_cons (ps_set (i := 3) scDraw.nd rfl (.inl rfl) pe_int)
        (Evl.pss_cut (ps_if (pt_cmpR op_gt (pe_callB call_len_seq (by rfl) N.len PySem.boot_len (pa_cons (pv 1) pa_nil)) pe_int (nomark _))
          (pss_one (ps_set (i := 3) scDraw.nd rfl (.inl rfl) (pe_callTy call_int1 (by rfl) N.int (by decide +kernel) (pa_cons (pe_ix ix_list (pv 1) (pe_op op_mod (pe_ix ix_list (pv 0) pe_int (fun _ _ => rfl)) (pe_callB call_len_seq (by rfl) N.len PySem.boot_len (pa_cons (pv 1) pa_nil))) (fun _ _ => rfl)) pa_nil)))) pss_nil)
        (pss_cons (ps_asg (pe_op op_mod (pe_op op_mul (pe_op op_add (pe_op op_add (pe_op op_mul (pe_callB call_abs (by rfl) N.abs (by decide +kernel) (pa_cons (pv 3) pa_nil)) pe_int) (pe_op op_mul (pe_ix ix_list (pv 0) pe_int (fun _ _ => rfl)) pe_int)) pe_int) pe_int) pe_int) (pg_sub (pv 0) pe_int set_list))
        (pss_one (ps_asg (pe_op op_add (pe_ix ix_list (pv 0) pe_int (fun _ _ => rfl)) pe_int) (pg_sub (pv 0) pe_int set_list)))))) pss_nil)
      (pss_cons (ps_set (i := 4) scDraw.nd rfl (.inl rfl) (pe_op op_mod (pe_callTy call_int1 (by rfl) N.int (by decide +kernel) (pa_cons (pe_ix ix_list (pv 0) pe_int (fun _ _ => rfl)) pa_nil)) (pv 2)))
      (pss_cons (ps_asg (pe_op op_fdiv (pe_ix ix_list (pv 0) pe_int (fun _ _ => rfl)) (pv 2)) (pg_sub (pv 0) pe_int set_list))
      (pss_one (ps_ret (pv 4))))), ?_⟩
    refine ⟨fun σ H1 => ∃ y3 x1 y1, σ = [some (.ref S), some (.ref scr), some (.int b), y3, none] ∧ (∀ a o, H a = some o → a ≠ S → H1 a = some o) ∧ H1 S = some (.lst [.int x1, .int y1]), ?_, ?_⟩
    · refine ⟨_, rfl, S, _, 1, .int y, rfl, rfl, .inl (.inl hS), rfl, rfl, _, rfl, ?_⟩
      by_cases hy : y = 0
      · refine iteB (decide_eq_true (by rw [hy])) ?_
        refine ⟨fun σ H1 => ∃ c : Int, σ = [some (.ref S), some (.ref scr), some (.int b), some (.int c), none] ∧ H1 = H, ?_, ?_⟩
        · refine ⟨_, rfl, scr, _, rfl, .inl hs, _, _, rfl, rfl, _, rfl, ?_⟩
          rw [List.length_map]
          by_cases hl : ns.length = 0
          · refine iteBF (decide_eq_false (by omega)) ⟨0, rfl, rfl⟩
          · refine iteB (decide_eq_true (by omega)) ?_
            have h1 : 0 ≤ x % (ns.length : Int) := Int.emod_nonneg _ (by omega)
            have h2 : x % (ns.length : Int) < ns.length := Int.emod_lt_of_pos _ (by omega)
            obtain ⟨j, hj⟩ : ∃ j : Nat, x % (ns.length : Int) = (j : Int) := ⟨(x % (ns.length : Int)).toNat, by omega⟩
            have hjl : j < ns.length := by omega
            refine ⟨_, rfl, _, rfl, S, _, 0, .int x, rfl, rfl, .inl (.inl hS), rfl, _, rfl, scr, _, rfl, .inl hs, x, (ns.length : Int), rfl, by rw [List.length_map], by omega, scr, _, _, .int ns[j], rfl, rfl, hs, ?_, .inl ⟨_, rfl, _, rfl, rfl⟩⟩
            rw [hj]
            exact atI_nat (by rw [List.getElem?_map, List.getElem?_eq_getElem hjl]; rfl)
        · rintro σ H1 ⟨c, rfl, rfl⟩
          refine ⟨_, rfl, c, rfl, _, _, rfl, rfl, .inr ⟨by decide, by decide⟩, ?_⟩
          refine ⟨_, rfl, S, _, 0, .int x, rfl, rfl, .inl (.inl hS), rfl, _, _, rfl, rfl, .inr ⟨by decide, by decide⟩, ?_⟩
          refine ⟨_, _, rfl, rfl, _, _, rfl, rfl, _, _, rfl, rfl, .inr ⟨by decide, by decide⟩, _, _, rfl, rfl, (by show (0 : Int) < 4294967291; decide), ?_⟩
          refine ⟨_, rfl, S, _, 1, 1, rfl, rfl, hS, rfl, ?_⟩
          refine ⟨_, rfl, S, _, 0, .int x, rfl, rfl, .inl (.inl upd_same), rfl, _, _, rfl, rfl, _, rfl, S, _, 0, 0, rfl, rfl, upd_same, rfl, ?_⟩
          exact ⟨_, _, _, rfl, fun a o h n => by rw [upd_ne n, upd_ne n]; exact h, upd_same⟩
      · refine iteBF (decide_eq_false fun z => hy (V.int.inj z)) ⟨none, x, y, rfl, fun a o h n => h, hS⟩
    · rintro σ H1 ⟨y3, x1, y1, rfl, k1, h1⟩
      refine ⟨_, rfl, S, _, 1, .int y1, rfl, rfl, .inl (.inl h1), rfl, .inl ⟨y1, rfl, _, rfl, y1, b, rfl, rfl, b0, ?_⟩⟩
      refine ⟨_, rfl, S, _, 1, .int y1, rfl, rfl, .inl (.inl h1), rfl, _, rfl, y1, b, rfl, rfl, ⟨b0, by omega⟩, _, rfl, S, _, 1, 1, rfl, rfl, h1, rfl, ?_⟩
      refine ⟨_, rfl, q _ _ (fun a o h n => by rw [upd_ne n]; exact k1 _ _ h n) ⟨x1, _, upd_same⟩ (Int.emod_nonneg _ (by omega)) (Int.emod_lt_of_pos _ b0)⟩
end
end K2

namespace K2
open PySem L2
def nmo (n : Str) : List Int := n.cps.toList.map fun (c : Nat) => (c : Int)
def w4 (n : Int) : List Int := [n / 16777216 % 256, n / 65536 % 256, n / 256 % 256, n % 256]
def wn (n : Str) : List Int := (n.length : Int) :: nmo n
/-- two sums, octet by octet -/
def sm (a : Int × Int) (o : Int) : Int × Int := ((a.1 + o) % 65521, (a.2 + (a.1 + o) % 65521) % 65521)
def sumO (os : List Int) : Int := let r := os.foldl sm (1, 0); r.2 * 65536 + r.1
theorem nmo_len (n : Str) : (nmo n).length = n.length := by
  unfold nmo
  rw [List.length_map]
  rfl
structure Ct (mg : Str → Option Value) : Prop where
  sm : ∃ v, mg "SUM_MODULUS" = some v ∧ RelV (.int 65521) v
section
variable {P : Program} {w : World} {K : PySem.W.Frag} {mg : Str → Option Value} {base : Heap}
def spEnc : Sp := fun vs H Q _ => ∃ n : Str, vs = [.str n] ∧ n.length ≤ 1000 ∧ ∀ H' p, Same H H' → H p = none → H' p = some (.lst ((nmo n).map V.int)) → Q (.ref p) H'
theorem scEnc : FnScope ["text", "character"] ["text"] (defScope sEncodeText) := ⟨rfl, rfl, rfl, by decide +kernel, rfl, by decide +kernel, by decide +kernel⟩
theorem ord_step {n : Str} {i : Nat} {c : Nat} (h : n.cps[i]? = some c) : (nmo n).take (i + 1) = (nmo n).take i ++ [(c : Int)] := by
  rw [List.take_add_one]
  congr 1
  unfold nmo
  rw [List.getElem?_map, Array.getElem?_toList, h]
  rfl
theorem ok_enc {f : Addr} {fd : FuncData} (F : Fun K "encode_text" "encode_text" sEncodeText f fd) (N : Nm mg) (go : mg "ord" = none) : FnOk P w K mg base CX0 1 f fd ["text"] spEnc := by
  refine F.ok scEnc (fun vs H Q E h => ?_) (fun cdv A outer s H vs Q E hr h => ?_)
  · obtain ⟨n, rfl, _⟩ := h
    rfl
  · obtain ⟨n, rfl, hl, q⟩ := h
    refine ⟨_, pss_one (ps_ret (pe_lc (own := [("character", 1)]) (g := gName 1) (tt := tYes) rfl scEnc.nd (pi_str (pv 0)) (blkOk_by (N := ["text", "character"]) (sc := defScope sEncodeText) (by decide +kernel))
      (fun _ _ _ _ _ => pg_name (i := 1) scEnc.nd rfl (Or.inl rfl)) (fun _ _ _ _ _ => pts_nil) (fun _ _ _ _ _ => pe_callB call_ord (by rfl) go (by decide +kernel) (pa_cons (pv 1) pa_nil)))), ?_⟩
    refine ⟨_, rfl, n, rfl, fun D nD => ?_⟩
    refine lc_it walk_str (fun i H3 => Same H H3 ∧ H3 D = some (.lst (((nmo n).take i).map V.int))) ⟨same_new nD, upd_same⟩ (fun _ _ _ _ => trivial) ?_ ?_
    · rintro i x H3 H' hi ⟨sm, hD⟩ ⟨rfl, c, hc, rfl⟩
      refine ⟨rfl, ?_⟩
      dsimp only [tYes]
      rw [if_pos rfl]
      refine ⟨_, rfl, _, rfl, rfl, _, hD, ?_, same_put sm nD, ?_⟩
      · rw [List.length_map, List.length_take, nmo_len]
        exact small1000 (by omega)
      · rw [upd_same, ord_step hc, List.map_append]
        rfl
    · rintro H3 ⟨sm, hD⟩
      rw [show n.cps.size = (nmo n).length from (nmo_len n).symm, List.take_length] at hD
      exact q H3 D sm nD hD
def spW4 : Sp := fun vs H Q _ => ∃ n : Int, vs = [.int n] ∧ ∀ p, H p = none → Q (.ref p) (upd H p (.lst ((w4 n).map V.int)))
theorem scW4 : FnScope ["number"] ["number"] (defScope sWriteFour) := ⟨rfl, rfl, rfl, by decide +kernel, rfl, by decide +kernel, by decide +kernel⟩
theorem ok_w4 {f : Addr} {fd : FuncData} (F : Fun K "write_four" "write_four" sWriteFour f fd) : FnOk P w K mg base CX0 1 f fd ["number"] spW4 := by
  refine F.ok scW4 (fun vs H Q E h => ?_) (fun cdv A outer s H vs Q E hr h => ?_)
  · obtain ⟨n, rfl, _⟩ := h
    rfl
  · obtain ⟨n, rfl, q⟩ := h
    refine ⟨_, pss_one (ps_ret (pe_lst (pa_cons (pe_op op_andM (pe_op op_shr (pv 0) pe_int) pe_int) (pa_cons (pe_op op_andM (pe_op op_shr (pv 0) pe_int) pe_int) (pa_cons (pe_op op_andM (pe_op op_shr (pv 0) pe_int) pe_int) (pa_cons (pe_op op_andM (pv 0) pe_int) pa_nil)))))), ?_⟩
    exact ⟨_, rfl, _, _, rfl, rfl, (by show (0 : Int) ≤ 24; decide), _, 8, rfl, rfl, _, rfl, _, _, rfl, rfl, (by show (0 : Int) ≤ 16; decide), _, 8, rfl, rfl, _, rfl, _, _, rfl, rfl, (by show (0 : Int) ≤ 8; decide), _, 8, rfl, rfl, _, rfl, _, 8, rfl, rfl, (by show 4 ≤ sizeLine; decide), fun p np => q p np⟩
def spWN : Sp := fun vs H Q _ => ∃ n : Str, vs = [.str n] ∧ n.length ≤ 900 ∧ ∀ H' p, Same H H' → H p = none → H' p = some (.lst ((wn n).map V.int)) → Q (.ref p) H'
theorem scWN : FnScope ["name"] ["name"] (defScope sWriteName) := ⟨rfl, rfl, rfl, by decide +kernel, rfl, by decide +kernel, by decide +kernel⟩
theorem ok_wn {f fE : Addr} {fd fdE : FuncData} (F : Fun K "write_name" "write_name" sWriteName f fd) (N : Nm mg) (go : mg "ord" = none) (FE : Fun K "encode_text" "encode_text" sEncodeText fE fdE) (bE : Binds K fdE ["text"] []) (gE : mg "encode_text" = some (.ref fE)) : FnOk P w K mg base CX0 2 f fd ["name"] spWN := by
  have GE : FnOk P w K mg base CX0 1 fE fdE ["text"] spEnc := ok_enc FE N go
  refine F.ok scWN (fun vs H Q E h => ?_) (fun cdv A outer s H vs Q E hr h => ?_)
  · obtain ⟨n, rfl, _⟩ := h
    rfl
  · obtain ⟨n, rfl, hl, q⟩ := h
    refine ⟨_, pss_one (ps_ret (pe_op op_cat (pe_lst (pa_cons (pe_callB call_len_str (by rfl) N.len PySem.boot_len (pa_cons (pv 0) pa_nil)) pa_nil)) (pe_call GE hr (by rfl) gE FE.kp bE .nil pass0 (pa_cons (pv 0) pa_nil)))), ?_⟩
    refine ⟨_, rfl, n, rfl, Nat.le_of_lt (small1000 (by omega)), (by show 1 ≤ sizeLine; decide), fun p1 n1 => ?_⟩
    refine ⟨_, rfl, n, rfl, by omega, fun H2 p2 s2 n2 e2 => ?_⟩
    have e1 := s2 _ _ (upd_same (H := H) (a := p1) (o := .lst [.int (n.length : Int)]))
    refine ⟨p1, p2, _, _, rfl, rfl, e1, e2, ?_, fun p np => q _ p ((same_new n1).trans (s2.trans (same_new np))) ((same_new n1).free (s2.free np)) ?_⟩
    · rw [List.length_map, nmo_len]
      exact Nat.le_of_lt (small1000 (by show 1 + _ ≤ _; omega))
    · rw [upd_same]
      rfl
end
end K2

namespace K2
open PySem L2
def smT (os : List Int) (i : Nat) : Int × Int := (os.take i).foldl sm (1, 0)
theorem smT_succ {os : List Int} {i : Nat} (h : i < os.length) : smT os (i + 1) = sm (smT os i) os[i] := by
  unfold smT
  rw [List.take_add_one, List.getElem?_eq_getElem h, List.foldl_append]
  rfl
theorem smT_end (os : List Int) : smT os os.length = os.foldl sm (1, 0) := by
  unfold smT
  rw [List.take_length]
section
variable {P : Program} {w : World} {K : PySem.W.Frag} {mg : Str → Option Value} {base : Heap}
def spSum (K : PySem.W.Frag) : Sp := fun vs H Q _ => ∃ (a : Addr) (os : List Int), vs = [.ref a] ∧ SqL K H a (os.map V.int) ∧ Q (.int (sumO os)) H
theorem scSum : FnScope ["octets", "first", "second", "octet"] ["octets"] (defScope sSumOf) := ⟨rfl, rfl, rfl, by decide +kernel, rfl, by decide +kernel, by decide +kernel⟩
theorem ok_sum {f : Addr} {fd : FuncData} (F : Fun K "sum_of" "sum_of" sSumOf f fd) (C : Ct mg) : FnOk P w K mg base CX0 1 f fd ["octets"] (spSum K) := by
  refine F.ok scSum (fun vs H Q E h => ?_) (fun cdv A outer s H vs Q E hr h => ?_)
  · obtain ⟨a, os, rfl, _⟩ := h
    rfl
  · obtain ⟨a, os, rfl, ha, q⟩ := h
    obtain ⟨v, mv, rv⟩ := C.sm
    refine ⟨_, pss_cons (ps_set (i := 1) scSum.nd rfl (.inl rfl) pe_int) (pss_cons (ps_set (i := 2) scSum.nd rfl (.inl rfl) pe_int)
      (pss_cons (ps_for PassesOwn.never rfl (pi_list (pv 0)) (pg_name (i := 3) scSum.nd rfl (.inl rfl))
        (pss_cons (ps_set (i := 1) scSum.nd rfl (.inl rfl) (pe_op op_mod (pe_op op_add (pv 1) (pv 3)) (pe_glob (by rfl) mv rv)))
        (pss_one (ps_set (i := 2) scSum.nd rfl (.inl rfl) (pe_op op_mod (pe_op op_add (pv 2) (pv 1)) (pe_glob (by rfl) mv rv))))))
      (pss_one (ps_ret (pe_op op_add (pe_op op_mul (pv 2) pe_int) (pv 1)))))), ?_⟩
    refine ⟨_, rfl, a, rfl, ⟨_, ha⟩, for_it (walk_list (xs := os.map V.int)) (fun i σ H2 => ∃ y3, σ = [some (.ref a), some (.int (smT os i).1), some (.int (smT os i).2), y3] ∧ H2 = H) ⟨none, rfl, rfl⟩ ?_ ?_ ?_⟩
    · rintro i σ H2 hi ⟨y3, rfl, rfl⟩
      exact ha
    · rintro i x σ H2 H' hi ⟨y3, rfl, rfl⟩ ⟨rfl, hx⟩
      rw [List.length_map] at hi
      rw [List.getElem?_map, List.getElem?_eq_getElem hi] at hx
      obtain rfl := Option.some.inj hx
      rw [smT_succ hi]
      exact ⟨_, rfl, _, rfl, _, _, rfl, rfl, _, _, rfl, rfl, (by show (0 : Int) < 65521; decide), _, rfl, _, rfl, _, _, rfl, rfl, _, _, rfl, rfl, (by show (0 : Int) < 65521; decide), _, rfl, rfl⟩
    · rintro σ H2 ⟨y3, rfl, rfl⟩
      rw [List.length_map, smT_end]
      exact ⟨_, rfl, _, _, rfl, rfl, .inr ⟨by decide, by decide⟩, _, rfl, _, _, rfl, rfl, q⟩
end
end K2

namespace K2
open PySem L2
/-! ### what a root holds -/
structure D where
  n : Str
  l : Int
  h : Int
  s : Int
structure T where
  n : Str
  k : Str
structure Ck where
  c : List Int
  o : Int
  l : Int
structure Ar where
  n : Str
  ds : List D
  ts : List T
  cs : List Ck
structure Ve where
  no : Int
  as : List Ar
def D.v (d : D) : List V := [.str d.n, .int d.l, .int d.h, .int d.s]
def T.v (t : T) : List V := [.str t.n, .str t.k]
/-- one by one -/
def All {α : Type} (R : V → α → Prop) (xs : List V) (l : List α) : Prop := xs.length = l.length ∧ ∀ (i : Nat) (a : α), l[i]? = some a → ∃ x, xs[i]? = some x ∧ R x a
theorem All.imp {α : Type} {R S : V → α → Prop} {xs : List V} {l : List α} (h : All R xs l) (k : ∀ x a, R x a → S x a) : All S xs l := ⟨h.1, fun i a e => let ⟨x, e1, e2⟩ := h.2 i a e; ⟨x, e1, k _ _ e2⟩⟩
theorem All.at {α : Type} {R : V → α → Prop} {xs : List V} {l : List α} (h : All R xs l) {i : Nat} {x : V} (hi : i < l.length) (e : xs[i]? = some x) : R x l[i] := by
  obtain ⟨y, e1, e2⟩ := h.2 i l[i] (List.getElem?_eq_getElem hi)
  rw [e] at e1
  obtain rfl := Option.some.inj e1
  exact e2
theorem All.nil {α : Type} {R : V → α → Prop} : All R [] [] := ⟨rfl, fun i a h => by simp at h⟩
theorem All.push {α : Type} {R : V → α → Prop} {xs : List V} {l : List α} {x : V} {a : α} (h : All R xs l) (e : R x a) : All R (xs ++ [x]) (l ++ [a]) := by
  refine ⟨by rw [List.length_append, List.length_append, h.1]; rfl, fun i b hb => ?_⟩
  rcases Nat.lt_trichotomy i l.length with hi | hi | hi
  · rw [List.getElem?_append_left hi] at hb
    obtain ⟨y, h1, h2⟩ := h.2 i b hb
    exact ⟨y, by rw [List.getElem?_append_left (by rw [h.1]; exact hi)]; exact h1, h2⟩
  · subst hi
    rw [List.getElem?_append_right (Nat.le_refl _), Nat.sub_self] at hb
    obtain rfl := Option.some.inj hb
    exact ⟨x, by rw [List.getElem?_append_right (Nat.le_of_eq h.1), h.1, Nat.sub_self]; rfl, e⟩
  · rw [List.getElem?_eq_none (by rw [List.length_append]; show l.length + 1 ≤ i; omega)] at hb
    cases hb
def RowAt (H : Hp) (r : List V) (x : V) : Prop := ∃ a, x = .ref a ∧ H a = some (.tup r)
def TupAt {α : Type} (H : Hp) (R : V → α → Prop) (x : V) (l : List α) : Prop := ∃ a xs, x = .ref a ∧ H a = some (.tup xs) ∧ All R xs l
def ShAt (H : Hp) (C : Addr) (x : V) (ds : List D) (ts : List T) : Prop := ∃ (a dx : Addr) (u v : V), x = .ref a ∧ H a = some (.ins C dx [("dims", u), ("attrs", v)]) ∧ TupAt H (fun y d => RowAt H d.v y) u ds ∧ TupAt H (fun y t => RowAt H t.v y) v ts
def CkAt (H : Hp) (x : V) (c : Ck) : Prop := ∃ a b, x = .ref a ∧ H a = some (.tup [.ref b, .int c.o, .int c.l]) ∧ H b = some (.tup (c.c.map V.int))
def ArAt (H : Hp) (C : Addr) (x : V) (r : Ar) : Prop := ∃ a u v, x = .ref a ∧ H a = some (.tup [.str r.n, u, v]) ∧ ShAt H C u r.ds r.ts ∧ TupAt H (CkAt H) v r.cs
def VeAt (H : Hp) (C : Addr) (x : V) (r : Ve) : Prop := ∃ a v, x = .ref a ∧ H a = some (.tup [.int r.no, v]) ∧ TupAt H (ArAt H C) v r.as
theorem RowAt.same {H H1 : Hp} {r : List V} {x : V} (h : RowAt H r x) (s : Same H H1) : RowAt H1 r x := let ⟨a, e1, e2⟩ := h; ⟨a, e1, s _ _ e2⟩
theorem TupAt.same {α : Type} {H H1 : Hp} {R S : V → α → Prop} {x : V} {l : List α} (h : TupAt H R x l) (s : Same H H1) (k : ∀ x a, R x a → S x a) : TupAt H1 S x l := let ⟨a, xs, e1, e2, e3⟩ := h; ⟨a, xs, e1, s _ _ e2, e3.imp k⟩
theorem ShAt.same {H H1 : Hp} {C : Addr} {x : V} {ds : List D} {ts : List T} (h : ShAt H C x ds ts) (s : Same H H1) : ShAt H1 C x ds ts := let ⟨a, dx, u, v, e1, e2, e3, e4⟩ := h
  ⟨a, dx, u, v, e1, s _ _ e2, e3.same s fun _ _ z => z.same s, e4.same s fun _ _ z => z.same s⟩
theorem CkAt.same {H H1 : Hp} {x : V} {c : Ck} (h : CkAt H x c) (s : Same H H1) : CkAt H1 x c := let ⟨a, b, e1, e2, e3⟩ := h; ⟨a, b, e1, s _ _ e2, s _ _ e3⟩
theorem ArAt.same {H H1 : Hp} {C : Addr} {x : V} {r : Ar} (h : ArAt H C x r) (s : Same H H1) : ArAt H1 C x r := let ⟨a, u, v, e1, e2, e3, e4⟩ := h; ⟨a, u, v, e1, s _ _ e2, e3.same s, e4.same s fun _ _ z => z.same s⟩
theorem VeAt.same {H H1 : Hp} {C : Addr} {x : V} {r : Ve} (h : VeAt H C x r) (s : Same H H1) : VeAt H1 C x r := let ⟨a, v, e1, e2, e3⟩ := h; ⟨a, v, e1, s _ _ e2, e3.same s fun _ _ z => z.same s⟩
/-! ### its octets -/
def KS : List Str := ["int", "flag", "text"]
def kix (k : Str) : Int := if k = "int" then 0 else if k = "flag" then 1 else 2
def eD (d : D) : List Int := wn d.n ++ w4 (d.l + 2147483648) ++ w4 (d.h + 2147483648) ++ w4 d.s
def eT (t : T) : List Int := wn t.n ++ [kix t.k]
def eSh (ds : List D) (ts : List T) : List Int := [(ds.length : Int)] ++ ds.flatMap eD ++ [(ts.length : Int)] ++ ts.flatMap eT
def eCk (c : Ck) : List Int := (c.c ++ [c.o, c.l]).flatMap w4
def eCs (cs : List Ck) : List Int := w4 (cs.length : Int) ++ cs.flatMap eCk
def eAr (r : Ar) : List Int := wn r.n ++ eSh r.ds r.ts ++ eCs r.cs
def eVe (r : Ve) : List Int := w4 r.no ++ w4 (r.as.length : Int) ++ r.as.flatMap eAr
def eRt (up da : Int) (vs : List Ve) : List Int := [77, 83] ++ w4 up ++ w4 da ++ w4 (vs.length : Int) ++ vs.flatMap eVe
theorem fm_take {α : Type} (f : α → List Int) (l : List α) (i : Nat) : ((l.take i).flatMap f).length ≤ (l.flatMap f).length := by
  conv => rhs; rw [← List.take_append_drop i l]
  rw [List.flatMap_append, List.length_append]
  omega
theorem fm_succ {α : Type} (f : α → List Int) {l : List α} {i : Nat} (h : i < l.length) : (l.take (i + 1)).flatMap f = (l.take i).flatMap f ++ f l[i] := by
  rw [List.take_add_one, List.getElem?_eq_getElem h, List.flatMap_append]
  show _ ++ [l[i]].flatMap f = _
  rw [List.flatMap_singleton]
theorem big {n : Nat} (h : n ≤ 1000000) : n ≤ sizeLine := Nat.le_trans h (by decide)
section
variable {P : Program} {w : World} {K : PySem.W.Frag} {mg : Str → Option Value} {base : Heap}
def spWC : Sp := fun vs H Q _ => ∃ (v : V) (cs : List Ck), vs = [v] ∧ TupAt H (CkAt H) v cs ∧ (eCs cs).length ≤ 1000000 ∧ ∀ H' p, Same H H' → H p = none → H' p = some (.lst ((eCs cs).map V.int)) → Q (.ref p) H'
theorem scWC : FnScope ["chunks", "octets", "chunk", "offset", "length", "number"] ["chunks"] (defScope sWriteChunks) := ⟨rfl, rfl, rfl, by decide +kernel, rfl, by decide +kernel, by decide +kernel⟩
theorem ok_wc {f fW : Addr} {fd fdW : FuncData} (F : Fun K "write_chunks" "write_chunks" sWriteChunks f fd) (N : Nm mg) (FW : Fun K "write_four" "write_four" sWriteFour fW fdW) (bW : Binds K fdW ["number"] []) (gW : mg "write_four" = some (.ref fW)) : FnOk P w K mg base CX0 2 f fd ["chunks"] spWC := by
  have GW : FnOk P w K mg base CX0 1 fW fdW ["number"] spW4 := ok_w4 FW
  refine F.ok scWC (fun vs H Q E h => ?_) (fun cdv A outer s H vs Q E hr h => ?_)
  · obtain ⟨v, cs, rfl, _⟩ := h
    rfl
  · obtain ⟨v, cs, rfl, ⟨a, xs, rfl, ha, hall⟩, hl, q⟩ := h
    refine ⟨_, pss_cons (ps_set (i := 1) scWC.nd rfl (.inl rfl) (pe_call GW hr (by rfl) gW FW.kp bW .nil pass0 (pa_cons (pe_callB call_len_seq (by rfl) N.len PySem.boot_len (pa_cons (pv 0) pa_nil)) pa_nil)))
      (pss_cons (ps_for PassesOwn.never rfl (pi_tup (pv 0)) (pg_tup (by rfl) (pgs_cons (pg_name (i := 2) scWC.nd rfl (.inl rfl)) (pgs_cons (pg_name (i := 3) scWC.nd rfl (.inl rfl)) (pgs_cons (pg_name (i := 4) scWC.nd rfl (.inl rfl)) pgs_nil))))
        (pss_one (ps_for PassesOwn.never rfl (pi_tup (pe_tup (StX.pa_star (pv 2) (pa_cons (pv 3) (pa_cons (pv 4) pa_nil))))) (pg_name (i := 5) scWC.nd rfl (.inl rfl))
          (pss_one (ps_expr (pe_bm PySem.F.plainAttrs_list PySem.F.slot_list_extend PySem.F.type_list_extend mt_extend (pv 1) (pa_cons (pe_call GW hr (by rfl) gW FW.kp bW .nil pass0 (pa_cons (pv 5) pa_nil)) pa_nil)))))))
      (pss_one (ps_ret (pv 1)))), ?_⟩
    have hxl := hall.1
    refine ⟨_, rfl, a, xs, rfl, .inr (SqT.of ha), _, rfl, fun p np => ?_⟩
    rw [hxl]
    have s1 : Same H (upd H p (.lst ((w4 (cs.length : Int)).map V.int))) := same_new np
    refine ⟨_, rfl, a, rfl, ⟨_, SqT.of (s1 _ _ ha)⟩, for_it (walk_tup (xs := xs)) (fun i σ H2 => ∃ y2 y3 y4 y5, σ = [some (.ref a), some (.ref p), y2, y3, y4, y5] ∧ Same H H2 ∧ H2 p = some (.lst ((w4 (cs.length : Int) ++ (cs.take i).flatMap eCk).map V.int))) ?_ ?_ ?_ ?_⟩
    · exact ⟨none, none, none, none, rfl, s1, by rw [upd_same]; rfl⟩
    · rintro i σ H2 hi ⟨y2, y3, y4, y5, rfl, s2, _⟩
      exact SqT.of (s2 _ _ ha)
    · rintro i x σ H2 H' hi ⟨y2, y3, y4, y5, rfl, s2, hp⟩ ⟨rfl, hx⟩
      rw [hxl] at hi
      obtain ⟨b, u, rfl, h1, h2⟩ := hall.at hi hx
      have hle : (w4 (cs.length : Int) ++ (cs.take (i + 1)).flatMap eCk).length ≤ 1000000 := by
        have := fm_take eCk cs (i + 1)
        unfold eCs at hl
        rw [List.length_append] at hl ⊢
        omega
      rw [fm_succ eCk hi, ← List.append_assoc] at hle ⊢
      generalize cs[i] = c at h1 h2 hle ⊢
      generalize (w4 (cs.length : Int) ++ (cs.take i).flatMap eCk) = acc at hp hle ⊢
      refine ⟨b, _, rfl, SqT.of (s2 _ _ h1), rfl, _, _, rfl, _, _, rfl, _, _, rfl, rfl, ?_⟩
      have em : c.c.map V.int ++ [V.int c.o, V.int c.l] = (c.c ++ [c.o, c.l]).map V.int := by rw [List.map_append]; rfl
      have hnl : (c.c ++ [c.o, c.l]).length ≤ 1000000 := by
        have : ((c.c ++ [c.o, c.l]).flatMap w4).length = 4 * (c.c ++ [c.o, c.l]).length := by
          generalize (c.c ++ [c.o, c.l]) = l
          induction l with
          | nil => rfl
          | cons x r ih =>
            rw [List.flatMap_cons, List.length_append, ih, List.length_cons]
            show 4 + _ = _
            omega
        rw [List.length_append] at hle
        unfold eCk at hle
        omega
      refine ⟨_, rfl, u, _, rfl, .inl (SqT.of (s2 _ _ h2)), _, rfl, _, rfl, ?_, fun t nt => ?_⟩
      · show (c.c.map V.int ++ [V.int c.o, V.int c.l]).length ≤ _
        rw [em, List.length_map]
        exact big hnl
      have npt : p ≠ t := ne_of_none hp nt
      have ntH : H t = none := s2.free nt
      refine ⟨t, rfl, ⟨_, SqT.of upd_same⟩, for_it (walk_tup (xs := (c.c ++ [c.o, c.l]).map V.int)) (fun j σ H3 => ∃ y5, σ = [some (.ref a), some (.ref p), some (.ref u), some (.int c.o), some (.int c.l), y5] ∧ Same H H3 ∧ H3 t = some (.tup ((c.c ++ [c.o, c.l]).map V.int)) ∧ H3 p = some (.lst ((acc ++ ((c.c ++ [c.o, c.l]).take j).flatMap w4).map V.int))) ?_ ?_ ?_ ?_⟩
      · refine ⟨_, rfl, s2.trans (same_new nt), ?_, ?_⟩
        · rw [upd_same, ← em]
        · rw [upd_ne npt, List.take_zero, List.flatMap_nil, List.append_nil]
          exact hp
      · rintro j σ H3 hj ⟨y5, rfl, s3, ht, _⟩
        exact SqT.of ht
      · rintro j x σ H3 H' hj ⟨y5, rfl, s3, ht, hp3⟩ ⟨rfl, hx⟩
        rw [List.length_map] at hj
        rw [List.getElem?_map, List.getElem?_eq_getElem hj] at hx
        obtain rfl := Option.some.inj hx
        have hle2 : (acc ++ ((c.c ++ [c.o, c.l]).take (j + 1)).flatMap w4).length ≤ 1000000 := by
          have := fm_take w4 (c.c ++ [c.o, c.l]) (j + 1)
          rw [List.length_append] at hle ⊢
          unfold eCk at hle
          omega
        rw [fm_succ w4 hj] at hle2 ⊢
        refine ⟨_, rfl, .inl ⟨rfl, _, .inl (.inl hp3)⟩, _, rfl, _, rfl, fun p2 n2 => ?_⟩
        have n2p : p ≠ p2 := ne_of_none hp3 n2
        refine ⟨p, p2, _, _, rfl, rfl, by rw [upd_ne n2p]; exact hp3, upd_same, ?_, ?_⟩
        · rw [List.length_map, List.length_map]
          rw [← List.append_assoc, List.length_append] at hle2
          exact big hle2
        · refine ⟨_, rfl, fun z o e => ?_, ?_, ?_⟩
          · have e3 := s3 _ _ e
            rw [upd_ne (fun y => by rw [y, np] at e; cases e), upd_ne (ne_of_none e3 n2)]
            exact e3
          · rw [upd_ne (ne_of ht hp3 (by intro z; cases z)), upd_ne (ne_of_none ht n2)]
            exact ht
          · rw [upd_same, ← List.map_append, List.append_assoc]
      · rintro σ H3 ⟨y5, rfl, s3, ht, hp3⟩
        rw [List.length_map, List.take_length] at hp3
        refine ⟨_, _, _, _, rfl, s3, ?_⟩
        rw [hp3]
        rfl
    · rintro σ H2 ⟨y2, y3, y4, y5, rfl, s2, hp⟩
      rw [hxl, List.take_length] at hp
      exact ⟨_, rfl, q H2 p s2 np hp⟩
end
end K2

namespace K2
open PySem L2
def SHf : List Str := ["dims", "attrs"]
structure Ct2 (K : PySem.W.Frag) (mg : Str → Option Value) : Prop where
  lift : ∃ v, mg "LIFT" = some v ∧ RelV (.int 2147483648) v
  kinds : ∃ kk, mg "KINDS" = some (.ref kk) ∧ (∀ H, SqT K H kk (KS.map V.str)) ∧ ∃ o, K.lookup kk = some o ∧ o.cls = .type "tuple" ∧ o.dict = none
structure GD (d : D) : Prop where
  n : d.n.length ≤ 30
structure GT (t : T) : Prop where
  n : t.n.length ≤ 30
  k : t.k ∈ KS
theorem kix_at {k : Str} (h : k ∈ KS) : ∃ j : Nat, KS[j]? = some k ∧ (∀ m, m < j → KS[m]? ≠ some k) ∧ kix k = (j : Int) := by
  have no0 : ∀ m : Nat, m < 0 → KS[m]? ≠ some k := fun m h => absurd h (Nat.not_lt_zero _)
  rcases List.mem_cons.mp h with rfl | h
  · exact ⟨0, rfl, no0, by decide +kernel⟩
  rcases List.mem_cons.mp h with rfl | h
  · refine ⟨1, rfl, fun m hm => ?_, by decide +kernel⟩
    obtain rfl : m = 0 := by omega
    decide +kernel
  rcases List.mem_cons.mp h with rfl | h
  · refine ⟨2, rfl, fun m hm => ?_, by decide +kernel⟩
    match m, hm with
    | 0, _ => decide +kernel
    | 1, _ => decide +kernel
  · exact absurd h List.not_mem_nil
section
variable {P : Program} {w : World} {K : PySem.W.Frag} {mg : Str → Option Value} {base : Heap}
def spWS (C : Addr) : Sp := fun vs H Q _ => ∃ (v : V) (ds : List D) (ts : List T), vs = [v] ∧ ShAt H C v ds ts ∧ (∀ d ∈ ds, GD d) ∧ (∀ t ∈ ts, GT t) ∧ (eSh ds ts).length ≤ 1000000 ∧ ∀ H' p, Same H H' → H p = none → H' p = some (.lst ((eSh ds ts).map V.int)) → Q (.ref p) H'
theorem scWS : FnScope ["shape", "octets", "name", "low", "high", "step", "kind"] ["shape"] (defScope sWriteShape) := ⟨rfl, rfl, rfl, by decide +kernel, rfl, by decide +kernel, by decide +kernel⟩
theorem ok_ws {f fW fN fE C fI : Addr} {fd fdW fdN fdE : FuncData} (F : Fun K "write_shape" "write_shape" sWriteShape f fd) (N : Nm mg) (go : mg "ord" = none) (S : KC K C fI SHf) (Z : Ct2 K mg) (FW : Fun K "write_four" "write_four" sWriteFour fW fdW) (bW : Binds K fdW ["number"] []) (gW : mg "write_four" = some (.ref fW))
    (FN : Fun K "write_name" "write_name" sWriteName fN fdN) (bN : Binds K fdN ["name"] []) (gN : mg "write_name" = some (.ref fN)) (FE : Fun K "encode_text" "encode_text" sEncodeText fE fdE) (bE : Binds K fdE ["text"] []) (gE : mg "encode_text" = some (.ref fE)) : FnOk P w K mg base CX0 3 f fd ["shape"] (spWS C) := by
  have GW : FnOk P w K mg base CX0 1 fW fdW ["number"] spW4 := ok_w4 FW
  have GN : FnOk P w K mg base CX0 2 fN fdN ["name"] spWN := ok_wn FN N go FE bE gE
  refine F.ok scWS (fun vs H Q E h => ?_) (fun cdv A outer s H vs Q E hr h => ?_)
  · obtain ⟨v, ds, ts, rfl, _⟩ := h
    rfl
  · obtain ⟨v, ds, ts, rfl, ⟨a, dx, v1, v2, rfl, ha, ⟨td, xs, rfl, htd, had⟩, ⟨ta, ys, rfl, hta, hat⟩⟩, gd, gt, hl, q⟩ := h
    have hr1 := hr.mono (j := 1) (by decide)
    have hr2 := hr.mono (j := 2) (by decide)
    obtain ⟨lv, ml, rl⟩ := Z.lift
    obtain ⟨kk, mk, hk, ko, ko1, ko2, ko3⟩ := Z.kinds
    refine ⟨_, pss_cons (ps_set (i := 1) scWS.nd rfl (.inl rfl) (pe_lst (pa_cons (pe_callB call_len_seq (by rfl) N.len PySem.boot_len (pa_cons (pe_fld (pv 0) rfl) pa_nil)) pa_nil)))
      (Evl.pss_cut (ps_for PassesOwn.never rfl (pi_tup (pe_fld (pv 0) rfl)) (pg_tup (by rfl) (pgs_cons (pg_name (i := 2) scWS.nd rfl (.inl rfl)) (pgs_cons (pg_name (i := 3) scWS.nd rfl (.inl rfl)) (pgs_cons (pg_name (i := 4) scWS.nd rfl (.inl rfl)) (pgs_cons (pg_name (i := 5) scWS.nd rfl (.inl rfl)) pgs_nil)))))
        (pss_one (ps_expr (pe_bm PySem.F.plainAttrs_list PySem.F.slot_list_extend PySem.F.type_list_extend mt_extend (pv 1) (pa_cons (pe_op op_cat (pe_op op_cat (pe_op op_cat (pe_call GN hr2 (by rfl) gN FN.kp bN .nil pass0 (pa_cons (pv 2) pa_nil)) (pe_call GW hr1 (by rfl) gW FW.kp bW .nil pass0 (pa_cons (pe_op op_add (pv 3) (pe_glob (by rfl) ml rl)) pa_nil)))
            (pe_call GW hr1 (by rfl) gW FW.kp bW .nil pass0 (pa_cons (pe_op op_add (pv 4) (pe_glob (by rfl) ml rl)) pa_nil))) (pe_call GW hr1 (by rfl) gW FW.kp bW .nil pass0 (pa_cons (pv 5) pa_nil))) pa_nil)))))
      (pss_cons (ps_expr (pe_bm PySem.F.plainAttrs_list PySem.F.slot_list_append PySem.F.type_list_append mt_append (pv 1) (pa_cons (pe_callB call_len_seq (by rfl) N.len PySem.boot_len (pa_cons (pe_fld (pv 0) rfl) pa_nil)) pa_nil)))
      (Evl.pss_cut (ps_for PassesOwn.never rfl (pi_tup (pe_fld (pv 0) rfl)) (pg_tup (by rfl) (pgs_cons (pg_name (i := 2) scWS.nd rfl (.inl rfl)) (pgs_cons (pg_name (i := 6) scWS.nd rfl (.inl rfl)) pgs_nil)))
        (pss_one (ps_expr (pe_bm PySem.F.plainAttrs_list PySem.F.slot_list_extend PySem.F.type_list_extend mt_extend (pv 1) (pa_cons (pe_op op_cat (pe_call GN hr2 (by rfl) gN FN.kp bN .nil pass0 (pa_cons (pv 2) pa_nil)) (pe_lst (pa_cons (pe_bm PySem.F.plainAttrs_tuple PySem.F.slot_tuple_index PySem.F.type_tuple_index mt_tup_index (pe_glob (v := .ref kk) (by rfl) mk rfl) (pa_cons (pv 6) pa_nil)) pa_nil))) pa_nil)))))
      (pss_one (ps_ret (pv 1)))))), ?_⟩
    have nC : ∀ {b : Addr} {xs : List V}, H b = some (.tup xs) → b ≠ a := fun e => ne_of e ha (by intro z; cases z)
    refine ⟨_, rfl, a, C, dx, _, .ref td, rfl, ha, S.cl, S.na _ (by decide +kernel), rfl, td, xs, rfl, .inr (SqT.of htd), (by show 1 ≤ sizeLine; decide), fun p np => ?_⟩
    rw [had.1]
    have s1 : Same H (upd H p (.lst [.int (ds.length : Int)])) := same_new np
    have lenB : ([(ds.length : Int)] ++ ds.flatMap eD).length ≤ 1000000 := by
      unfold eSh at hl
      rw [List.length_append, List.length_append] at hl
      omega
    refine ⟨fun σ H2 => ∃ y2 y3 y4 y5 y6, σ = [some (.ref a), some (.ref p), y2, y3, y4, y5, y6] ∧ Same H H2 ∧ H2 p = some (.lst (([(ds.length : Int)] ++ ds.flatMap eD).map V.int)), ?_, ?_⟩
    · refine ⟨_, rfl, a, C, dx, _, .ref td, rfl, s1 _ _ ha, S.cl, S.na _ (by decide +kernel), rfl, td, rfl, ⟨_, SqT.of (s1 _ _ htd)⟩, for_it (walk_tup (xs := xs)) (fun i σ H2 => ∃ y2 y3 y4 y5, σ = [some (.ref a), some (.ref p), y2, y3, y4, y5, none] ∧ Same H H2 ∧ H2 p = some (.lst (([(ds.length : Int)] ++ (ds.take i).flatMap eD).map V.int))) ?_ ?_ ?_ ?_⟩
      · exact ⟨none, none, none, none, rfl, s1, by rw [upd_same]; rfl⟩
      · rintro i σ H2 hi ⟨y2, y3, y4, y5, rfl, s2, _⟩
        exact SqT.of (s2 _ _ htd)
      · rintro i x σ H2 H' hi ⟨y2, y3, y4, y5, rfl, s2, hp⟩ ⟨rfl, hx⟩
        rw [had.1] at hi
        obtain ⟨b, rfl, hb⟩ := had.at hi hx
        have gd1 := (gd _ (List.getElem_mem hi)).n
        have hle : ([(ds.length : Int)] ++ (ds.take (i + 1)).flatMap eD).length ≤ 1000000 := by
          have := fm_take eD ds (i + 1)
          rw [List.length_append] at lenB ⊢
          omega
        rw [fm_succ eD hi, ← List.append_assoc] at hle ⊢
        generalize ds[i] = d at hb gd1 hle ⊢
        generalize ([(ds.length : Int)] ++ (ds.take i).flatMap eD) = acc at hp hle ⊢
        refine ⟨b, _, rfl, SqT.of (s2 _ _ hb), rfl, _, _, rfl, _, _, rfl, _, _, rfl, _, _, rfl, rfl, ?_⟩
        refine ⟨_, rfl, .inl ⟨rfl, _, .inl (.inl hp)⟩, _, rfl, d.n, rfl, by omega, fun H3 p1 s3 n1 e1 => ?_⟩
        refine ⟨_, rfl, _, _, rfl, rfl, _, rfl, fun p2 n2 => ?_⟩
        have q12 : p1 ≠ p2 := ne_of_none e1 n2
        have el1 : (wn d.n).length ≤ 31 := by
          show (nmo d.n).length + 1 ≤ 31
          rw [nmo_len]
          omega
        refine ⟨p1, p2, _, _, rfl, rfl, by rw [upd_ne q12]; exact e1, upd_same, ?_, fun p3 n3 => ?_⟩
        · rw [List.length_map, List.length_map]
          exact big (by show _ + 4 ≤ _; omega)
        refine ⟨_, rfl, _, _, rfl, rfl, _, rfl, fun p4 n4 => ?_⟩
        have q34 : p3 ≠ p4 := ne_of_none upd_same n4
        refine ⟨p3, p4, _, _, rfl, rfl, by rw [upd_ne q34, upd_same], upd_same, ?_, fun p5 n5 => ?_⟩
        · rw [List.length_append, List.length_map, List.length_map, List.length_map]
          exact big (by show _ + 4 + 4 ≤ _; omega)
        refine ⟨_, rfl, _, rfl, fun p6 n6 => ?_⟩
        have q56 : p5 ≠ p6 := ne_of_none upd_same n6
        refine ⟨p5, p6, _, _, rfl, rfl, by rw [upd_ne q56, upd_same], upd_same, ?_, fun p7 n7 => ?_⟩
        · rw [List.length_append, List.length_append, List.length_map, List.length_map, List.length_map, List.length_map]
          exact big (by show _ + 4 + 4 + 4 ≤ _; omega)
        refine ⟨p, p7, _, _, rfl, rfl, same_new n7 _ _ (same_new n6 _ _ (same_new n5 _ _ (same_new n4 _ _ (same_new n3 _ _ (same_new n2 _ _ (s3 _ _ hp)))))), upd_same, ?_, ?_⟩
        · rw [List.length_append] at hle
          refine big (Nat.le_trans (Nat.le_of_eq ?_) hle)
          unfold eD
          simp only [List.length_append, List.length_map]
        · refine ⟨_, _, _, _, rfl, fun z o e => ?_, ?_⟩
          · rw [upd_ne (fun y => by rw [y, np] at e; cases e)]
            exact same_new n7 _ _ (same_new n6 _ _ (same_new n5 _ _ (same_new n4 _ _ (same_new n3 _ _ (same_new n2 _ _ (s3 _ _ (s2 _ _ e)))))))
          · rw [upd_same]
            unfold eD
            simp only [List.map_append]
      · rintro σ H2 ⟨y2, y3, y4, y5, rfl, s2, hp⟩
        rw [had.1, List.take_length] at hp
        exact ⟨_, _, _, _, _, rfl, s2, hp⟩
    · rintro σ H2 ⟨y2, y3, y4, y5, y6, rfl, s2, hp⟩
      refine ⟨_, rfl, .inl ⟨rfl, _, .inl (.inl hp)⟩, _, rfl, a, C, dx, _, .ref ta, rfl, s2 _ _ ha, S.cl, S.na _ (by decide +kernel), rfl, ta, ys, rfl, .inr (SqT.of (s2 _ _ hta)), p, _, _, rfl, rfl, hp, ?_, ?_⟩
      · rw [List.length_map]
        exact Nat.lt_of_le_of_lt lenB (by decide)
      rw [hat.1]
      have s3 : Same H (upd H2 p (.lst (([(ds.length : Int)] ++ ds.flatMap eD).map V.int ++ [.int (ts.length : Int)]))) := same_put s2 np
      have hp3 : (upd H2 p (.lst (([(ds.length : Int)] ++ ds.flatMap eD).map V.int ++ [.int (ts.length : Int)]))) p = some (.lst (([(ds.length : Int)] ++ ds.flatMap eD ++ [(ts.length : Int)]).map V.int)) := by
        rw [upd_same, List.map_append (l₂ := [(ts.length : Int)])]
        rfl
      generalize (upd H2 p (.lst (([(ds.length : Int)] ++ ds.flatMap eD).map V.int ++ [.int (ts.length : Int)]))) = H3 at s3 hp3
      have hl2 : (([(ds.length : Int)] ++ ds.flatMap eD ++ [(ts.length : Int)]) ++ ts.flatMap eT).length ≤ 1000000 := hl
      generalize hpre : ([(ds.length : Int)] ++ ds.flatMap eD ++ [(ts.length : Int)]) = pre at hp3 hl2
      refine ⟨fun σ H2 => ∃ y2 y3 y4 y5 y6, σ = [some (.ref a), some (.ref p), y2, y3, y4, y5, y6] ∧ Same H H2 ∧ H2 p = some (.lst ((pre ++ ts.flatMap eT).map V.int)), ?_, ?_⟩
      · refine ⟨_, rfl, a, C, dx, _, .ref ta, rfl, s3 _ _ ha, S.cl, S.na _ (by decide +kernel), rfl, ta, rfl, ⟨_, SqT.of (s3 _ _ hta)⟩, for_it (walk_tup (xs := ys)) (fun i σ H2 => ∃ y2 y6, σ = [some (.ref a), some (.ref p), y2, y3, y4, y5, y6] ∧ Same H H2 ∧ H2 p = some (.lst ((pre ++ (ts.take i).flatMap eT).map V.int))) ?_ ?_ ?_ ?_⟩
        · exact ⟨_, _, rfl, s3, by rw [List.take_zero, List.flatMap_nil, List.append_nil]; exact hp3⟩
        · rintro i σ H2 hi ⟨y2, y6, rfl, s2, _⟩
          exact SqT.of (s2 _ _ hta)
        · rintro i x σ H2 H' hi ⟨y2, y6, rfl, s2, hp⟩ ⟨rfl, hx⟩
          rw [hat.1] at hi
          obtain ⟨b, rfl, hb⟩ := hat.at hi hx
          have gt1 := gt _ (List.getElem_mem hi)
          have hle : (pre ++ (ts.take (i + 1)).flatMap eT).length ≤ 1000000 := by
            have := fm_take eT ts (i + 1)
            rw [List.length_append] at hl2 ⊢
            omega
          rw [fm_succ eT hi, ← List.append_assoc] at hle ⊢
          generalize ts[i] = t at hb gt1 hle ⊢
          generalize (pre ++ (ts.take i).flatMap eT) = acc at hp hle ⊢
          have tl := gt1.n
          obtain ⟨j, j1, j2, j3⟩ := kix_at gt1.k
          refine ⟨b, _, rfl, SqT.of (s2 _ _ hb), rfl, _, _, rfl, _, _, rfl, rfl, ?_⟩
          refine ⟨_, rfl, .inl ⟨rfl, _, .inl (.inl hp)⟩, _, rfl, t.n, rfl, by omega, fun H3 p1 s3 n1 e1 => ?_⟩
          refine ⟨.inr (.inl ⟨rfl, ko, ko1, ko2, ko3⟩), _, rfl, kk, KS, t.k, j, rfl, rfl, hk _, j1, j2, (by show 1 ≤ sizeLine; decide), fun p2 n2 => ?_⟩
          have q12 : p1 ≠ p2 := ne_of_none e1 n2
          have el1 : (wn t.n).length ≤ 31 := by
            show (nmo t.n).length + 1 ≤ 31
            rw [nmo_len]
            omega
          refine ⟨p1, p2, _, _, rfl, rfl, by rw [upd_ne q12]; exact e1, upd_same, ?_, fun p3 n3 => ?_⟩
          · rw [List.length_map]
            exact big (by show _ + 1 ≤ _; omega)
          refine ⟨p, p3, _, _, rfl, rfl, same_new n3 _ _ (same_new n2 _ _ (s3 _ _ hp)), upd_same, ?_, ?_⟩
          · rw [List.length_append] at hle
            refine big (Nat.le_trans (Nat.le_of_eq ?_) hle)
            unfold eT
            simp only [List.length_append, List.length_map, List.length_cons, List.length_nil]
          · refine ⟨_, _, rfl, fun z o e => ?_, ?_⟩
            · rw [upd_ne (fun y => by rw [y, np] at e; cases e)]
              exact same_new n3 _ _ (same_new n2 _ _ (s3 _ _ (s2 _ _ e)))
            · rw [upd_same]
              unfold eT
              rw [j3]
              simp only [List.map_append]
              rfl
        · rintro σ H2 ⟨y2, y6, rfl, s2, hp⟩
          rw [hat.1, List.take_length] at hp
          exact ⟨_, _, _, _, _, rfl, s2, hp⟩
      · rintro σ H2 ⟨y2, y3, y4, y5, y6, rfl, s2, hp⟩
        refine ⟨_, rfl, q H2 p s2 np ?_⟩
        rw [hp, ← hpre]
        rfl
end
end K2

namespace K2
open PySem L2
def RHf : List Str := ["upcoming", "data", "versions"]
def RtAt (H : Hp) (CR C : Addr) (x : V) (up da : Int) (vs : List Ve) : Prop := ∃ (a dx : Addr) (u : V), x = .ref a ∧ H a = some (.ins CR dx [("upcoming", .int up), ("data", .int da), ("versions", u)]) ∧ TupAt H (VeAt H C) u vs
theorem RtAt.same {H H1 : Hp} {CR C : Addr} {x : V} {up da : Int} {vs : List Ve} (h : RtAt H CR C x up da vs) (s : Same H H1) : RtAt H1 CR C x up da vs := let ⟨a, dx, u, e1, e2, e3⟩ := h; ⟨a, dx, u, e1, s _ _ e2, e3.same s fun _ _ z => z.same s⟩
structure GA (r : Ar) : Prop where
  n : r.n.length ≤ 30
  d : ∀ d ∈ r.ds, GD d
  t : ∀ t ∈ r.ts, GT t
def GV (vs : List Ve) : Prop := ∀ v ∈ vs, ∀ r ∈ v.as, GA r
structure Ct3 (K : PySem.W.Frag) (mg : Str → Option Value) : Prop where
  first : ∃ kf, mg "FIRST_OCTETS" = some (.ref kf) ∧ ∀ H, SqT K H kf ([77, 83].map V.int)
section
variable {P : Program} {w : World} {K : PySem.W.Frag} {mg : Str → Option Value} {base : Heap}
structure EncF (P : Program) (w : World) (K : PySem.W.Frag) (mg : Str → Option Value) (base : Heap) (C : Addr) where
  (f4 fN fS fC fU : Addr)
  (d4 dN dS dC dU : FuncData)
  G4 : FnOk P w K mg base CX0 1 f4 d4 ["number"] spW4
  b4 : Binds K d4 ["number"] []
  k4 : PySem.W.keepIn K (.ref f4) = true
  g4 : mg "write_four" = some (.ref f4)
  GN : FnOk P w K mg base CX0 2 fN dN ["name"] spWN
  bN : Binds K dN ["name"] []
  kN : PySem.W.keepIn K (.ref fN) = true
  gN : mg "write_name" = some (.ref fN)
  GS : FnOk P w K mg base CX0 3 fS dS ["shape"] (spWS C)
  bS : Binds K dS ["shape"] []
  kS : PySem.W.keepIn K (.ref fS) = true
  gS : mg "write_shape" = some (.ref fS)
  GC : FnOk P w K mg base CX0 2 fC dC ["chunks"] spWC
  bC : Binds K dC ["chunks"] []
  kC : PySem.W.keepIn K (.ref fC) = true
  gC : mg "write_chunks" = some (.ref fC)
  GU : FnOk P w K mg base CX0 1 fU dU ["octets"] (spSum K)
  bU : Binds K dU ["octets"] []
  kU : PySem.W.keepIn K (.ref fU) = true
  gU : mg "sum_of" = some (.ref fU)
def spER (CR C : Addr) : Sp := fun vs H Q _ => ∃ (v : V) (up da : Int) (rs : List Ve), vs = [v] ∧ RtAt H CR C v up da rs ∧ GV rs ∧ (eRt up da rs).length ≤ 900000 ∧
  ∀ H' p, Same H H' → H p = none → H' p = some (.lst ((eRt up da rs ++ w4 (sumO (eRt up da rs))).map V.int)) → Q (.ref p) H'
theorem scER : FnScope ["root", "octets", "number", "arrays", "name", "shape", "chunks"] ["root"] (defScope sEncodeRoot) := ⟨rfl, rfl, rfl, by decide +kernel, rfl, by decide +kernel, by decide +kernel⟩
theorem ok_er {f CR C fI : Addr} {fd : FuncData} (F : Fun K "encode_root" "encode_root" sEncodeRoot f fd) (N : Nm mg) (R : KC K CR fI RHf) (Y : Ct3 K mg) (Z : EncF P w K mg base C) : FnOk P w K mg base CX0 4 f fd ["root"] (spER CR C) := by
  have G4 := Z.G4
  have GN := Z.GN
  have GS := Z.GS
  have GC := Z.GC
  have GU := Z.GU
  refine F.ok scER (fun vs H Q E h => ?_) (fun cdv A outer s H vs Q E hr h => ?_)
  · obtain ⟨v, up, da, rs, rfl, _⟩ := h
    rfl
  · obtain ⟨v, up, da, rs, rfl, ⟨a, dx, v1, rfl, ha, ⟨ta, xs, rfl, hta, hall⟩⟩, gv, hl, q⟩ := h
    have hr1 := hr.mono (j := 1) (by decide)
    have hr2 := hr.mono (j := 2) (by decide)
    obtain ⟨kf, mf, hf⟩ := Y.first
    refine ⟨_, pss_cons (ps_set (i := 1) scER.nd rfl (.inl rfl) (pe_op op_cat (pe_op op_cat (pe_op op_cat (pe_callTy call_list_of (by rfl) N.list (by decide +kernel) (pa_cons (pe_glob (v := .ref kf) (by rfl) mf rfl) pa_nil))
        (pe_call G4 hr1 (by rfl) Z.g4 Z.k4 Z.b4 .nil pass0 (pa_cons (pe_fld (pv 0) rfl) pa_nil))) (pe_call G4 hr1 (by rfl) Z.g4 Z.k4 Z.b4 .nil pass0 (pa_cons (pe_fld (pv 0) rfl) pa_nil)))
        (pe_call G4 hr1 (by rfl) Z.g4 Z.k4 Z.b4 .nil pass0 (pa_cons (pe_callB call_len_seq (by rfl) N.len PySem.boot_len (pa_cons (pe_fld (pv 0) rfl) pa_nil)) pa_nil))))
      (Evl.pss_cut (ps_for PassesOwn.never rfl (pi_tup (pe_fld (pv 0) rfl)) (pg_tup (by rfl) (pgs_cons (pg_name (i := 2) scER.nd rfl (.inl rfl)) (pgs_cons (pg_name (i := 3) scER.nd rfl (.inl rfl)) pgs_nil)))
        (pss_cons (ps_expr (pe_bm PySem.F.plainAttrs_list PySem.F.slot_list_extend PySem.F.type_list_extend mt_extend (pv 1) (pa_cons (pe_op op_cat (pe_call G4 hr1 (by rfl) Z.g4 Z.k4 Z.b4 .nil pass0 (pa_cons (pv 2) pa_nil)) (pe_call G4 hr1 (by rfl) Z.g4 Z.k4 Z.b4 .nil pass0 (pa_cons (pe_callB call_len_seq (by rfl) N.len PySem.boot_len (pa_cons (pv 3) pa_nil)) pa_nil))) pa_nil)))
        (pss_one (ps_for PassesOwn.never rfl (pi_tup (pv 3)) (pg_tup (by rfl) (pgs_cons (pg_name (i := 4) scER.nd rfl (.inl rfl)) (pgs_cons (pg_name (i := 5) scER.nd rfl (.inl rfl)) (pgs_cons (pg_name (i := 6) scER.nd rfl (.inl rfl)) pgs_nil))))
          (pss_one (ps_expr (pe_bm PySem.F.plainAttrs_list PySem.F.slot_list_extend PySem.F.type_list_extend mt_extend (pv 1) (pa_cons (pe_op op_cat (pe_op op_cat (pe_call GN hr2 (by rfl) Z.gN Z.kN Z.bN .nil pass0 (pa_cons (pv 4) pa_nil)) (pe_call GS hr (by rfl) Z.gS Z.kS Z.bS .nil pass0 (pa_cons (pv 5) pa_nil))) (pe_call GC hr2 (by rfl) Z.gC Z.kC Z.bC .nil pass0 (pa_cons (pv 6) pa_nil))) pa_nil))))))))
      (pss_one (ps_ret (pe_op op_cat (pv 1) (pe_call G4 hr1 (by rfl) Z.g4 Z.k4 Z.b4 .nil pass0 (pa_cons (pe_call GU hr1 (by rfl) Z.gU Z.kU Z.bU .nil pass0 (pa_cons (pv 1) pa_nil)) pa_nil)))))), ?_⟩
    have nR : NoAttr K CR "upcoming" ∧ NoAttr K CR "data" ∧ NoAttr K CR "versions" := ⟨R.na _ (by decide +kernel), R.na _ (by decide +kernel), R.na _ (by decide +kernel)⟩
    have nta : ta ≠ a := ne_of hta ha (by intro z; cases z)
    refine ⟨kf, _, rfl, .inr (hf _), fun p1 n1 => ?_⟩
    refine ⟨_, rfl, a, CR, dx, _, .int up, rfl, same_new n1 _ _ ha, R.cl, nR.1, rfl, up, rfl, fun p2 n2 => ?_⟩
    have q12 : p1 ≠ p2 := ne_of_none upd_same n2
    refine ⟨p1, p2, _, _, rfl, rfl, by rw [upd_ne q12, upd_same], upd_same, (by show 2 + 4 ≤ sizeLine; decide), fun p3 n3 => ?_⟩
    refine ⟨_, rfl, a, CR, dx, _, .int da, rfl, same_new n3 _ _ (same_new n2 _ _ (same_new n1 _ _ ha)), R.cl, nR.2.1, rfl, da, rfl, fun p4 n4 => ?_⟩
    have q34 : p3 ≠ p4 := ne_of_none upd_same n4
    refine ⟨p3, p4, _, _, rfl, rfl, by rw [upd_ne q34, upd_same], upd_same, (by show 2 + 4 + 4 ≤ sizeLine; decide), fun p5 n5 => ?_⟩
    refine ⟨_, rfl, a, CR, dx, _, .ref ta, rfl, same_new n5 _ _ (same_new n4 _ _ (same_new n3 _ _ (same_new n2 _ _ (same_new n1 _ _ ha)))), R.cl, nR.2.2, rfl, ta, xs, rfl, .inr (SqT.of (same_new n5 _ _ (same_new n4 _ _ (same_new n3 _ _ (same_new n2 _ _ (same_new n1 _ _ hta)))))), _, rfl, fun p6 n6 => ?_⟩
    have q56 : p5 ≠ p6 := ne_of_none upd_same n6
    refine ⟨p5, p6, _, _, rfl, rfl, by rw [upd_ne q56, upd_same], upd_same, (by show 2 + 4 + 4 + 4 ≤ sizeLine; decide), fun p np => ?_⟩
    refine ⟨fun σ H2 => ∃ y2 y3 y4 y5 y6, σ = [some (.ref a), some (.ref p), y2, y3, y4, y5, y6] ∧ Same H H2 ∧ H2 p = some (.lst ((eRt up da rs).map V.int)), ?_, ?_⟩
    · have np0 : H p = none := (same_new n1).free ((same_new n2).free ((same_new n3).free ((same_new n4).free ((same_new n5).free ((same_new n6).free np)))))
      refine ⟨_, rfl, a, CR, dx, _, .ref ta, rfl, same_new np _ _ (same_new n6 _ _ (same_new n5 _ _ (same_new n4 _ _ (same_new n3 _ _ (same_new n2 _ _ (same_new n1 _ _ ha)))))), R.cl, nR.2.2, rfl, ta, rfl, ⟨_, SqT.of (same_new np _ _ (same_new n6 _ _ (same_new n5 _ _ (same_new n4 _ _ (same_new n3 _ _ (same_new n2 _ _ (same_new n1 _ _ hta)))))))⟩,
        for_it (walk_tup (xs := xs)) (fun i σ H2 => ∃ y2 y3 y4 y5 y6, σ = [some (.ref a), some (.ref p), y2, y3, y4, y5, y6] ∧ Same H H2 ∧ H2 p = some (.lst ((([77, 83] ++ w4 up ++ w4 da ++ w4 (rs.length : Int)) ++ (rs.take i).flatMap eVe).map V.int))) ?_ ?_ ?_ ?_⟩
      · refine ⟨none, none, none, none, none, rfl, fun z o e => same_new np _ _ (same_new n6 _ _ (same_new n5 _ _ (same_new n4 _ _ (same_new n3 _ _ (same_new n2 _ _ (same_new n1 _ _ e)))))), ?_⟩
        rw [upd_same, hall.1]
        rfl
      · rintro i σ H2 hi ⟨y2, y3, y4, y5, y6, rfl, s2, _⟩
        exact SqT.of (s2 _ _ hta)
      · rintro i x σ H2 H' hi ⟨y2, y3, y4, y5, y6, rfl, s2, hp⟩ ⟨rfl, hx⟩
        rw [hall.1] at hi
        obtain ⟨b, u, rfl, hb, ⟨tb, zs, rfl, htb, hzs⟩⟩ := hall.at hi hx
        have gv1 := gv _ (List.getElem_mem hi)
        have hle : (([77, 83] ++ w4 up ++ w4 da ++ w4 (rs.length : Int)) ++ (rs.take (i + 1)).flatMap eVe).length ≤ 900000 := by
          have := fm_take eVe rs (i + 1)
          unfold eRt at hl
          rw [List.length_append] at hl ⊢
          omega
        rw [fm_succ eVe hi, ← List.append_assoc] at hle ⊢
        generalize rs[i] = r at hb htb hzs gv1 hle ⊢
        generalize (([77, 83] ++ w4 up ++ w4 da ++ w4 (rs.length : Int)) ++ (rs.take i).flatMap eVe) = acc at hp hle ⊢
        refine ⟨b, _, rfl, SqT.of (s2 _ _ hb), rfl, _, _, rfl, _, _, rfl, rfl, ?_⟩
        refine ⟨_, rfl, .inl ⟨rfl, _, .inl (.inl hp)⟩, _, rfl, _, rfl, fun a1 m1 => ?_⟩
        refine ⟨_, rfl, tb, zs, rfl, .inr (SqT.of (same_new m1 _ _ (s2 _ _ htb))), _, rfl, fun a2 m2 => ?_⟩
        have r12 : a1 ≠ a2 := ne_of_none upd_same m2
        refine ⟨a1, a2, _, _, rfl, rfl, by rw [upd_ne r12, upd_same], upd_same, (by show 4 + 4 ≤ sizeLine; decide), fun a3 m3 => ?_⟩
        have len1 : acc.length + 8 ≤ 900000 := by
          rw [List.length_append] at hle
          unfold eVe at hle
          rw [List.length_append, List.length_append] at hle
          have : (w4 r.no).length = 4 := rfl
          have : (w4 (r.as.length : Int)).length = 4 := rfl
          omega
        refine ⟨p, a3, _, _, rfl, rfl, same_new m3 _ _ (same_new m2 _ _ (same_new m1 _ _ hp)), upd_same, ?_, ?_⟩
        · rw [List.length_map]
          exact big (by show acc.length + 8 ≤ _; omega)
        have sA : ∀ z o, H z = some o → (upd (upd (upd (upd H' a1 (.lst ((w4 r.no).map V.int))) a2 (.lst ((w4 (zs.length : Int)).map V.int))) a3 (.lst ((w4 r.no).map V.int ++ (w4 (zs.length : Int)).map V.int))) p (.lst (acc.map V.int ++ ((w4 r.no).map V.int ++ (w4 (zs.length : Int)).map V.int)))) z = some o := fun z o e => by
          rw [upd_ne (fun y => by rw [y, np0] at e; cases e)]
          exact same_new m3 _ _ (same_new m2 _ _ (same_new m1 _ _ (s2 _ _ e)))
        have hpA : (upd (upd (upd (upd H' a1 (.lst ((w4 r.no).map V.int))) a2 (.lst ((w4 (zs.length : Int)).map V.int))) a3 (.lst ((w4 r.no).map V.int ++ (w4 (zs.length : Int)).map V.int))) p (.lst (acc.map V.int ++ ((w4 r.no).map V.int ++ (w4 (zs.length : Int)).map V.int)))) p = some (.lst ((acc ++ (w4 r.no ++ w4 (r.as.length : Int))).map V.int)) := by
          rw [upd_same, hzs.1]
          simp only [List.map_append]
        have hle2 : ((acc ++ (w4 r.no ++ w4 (r.as.length : Int))) ++ r.as.flatMap eAr).length ≤ 900000 := by
          refine Nat.le_trans (Nat.le_of_eq ?_) hle
          unfold eVe
          simp only [List.length_append]
          omega
        have hend : acc ++ eVe r = (acc ++ (w4 r.no ++ w4 (r.as.length : Int))) ++ r.as.flatMap eAr := by
          unfold eVe
          simp only [List.append_assoc]
        rw [hend]
        generalize (upd (upd (upd (upd H' a1 (.lst ((w4 r.no).map V.int))) a2 (.lst ((w4 (zs.length : Int)).map V.int))) a3 (.lst ((w4 r.no).map V.int ++ (w4 (zs.length : Int)).map V.int))) p (.lst (acc.map V.int ++ ((w4 r.no).map V.int ++ (w4 (zs.length : Int)).map V.int)))) = HA at sA hpA ⊢
        generalize (acc ++ (w4 r.no ++ w4 (r.as.length : Int))) = acc2 at hpA hle2 ⊢
        refine ⟨_, rfl, tb, rfl, ⟨_, SqT.of (sA _ _ htb)⟩, for_it (walk_tup (xs := zs)) (fun j σ H2 => ∃ y4 y5 y6, σ = [some (.ref a), some (.ref p), some (.int r.no), some (.ref tb), y4, y5, y6] ∧ Same H H2 ∧ H2 p = some (.lst ((acc2 ++ (r.as.take j).flatMap eAr).map V.int))) ?_ ?_ ?_ ?_⟩
        · exact ⟨_, _, _, rfl, sA, by rw [List.take_zero, List.flatMap_nil, List.append_nil]; exact hpA⟩
        · rintro j σ H2 hj ⟨y4, y5, y6, rfl, s2, _⟩
          exact SqT.of (s2 _ _ htb)
        · rintro j x σ H2 H3 hj ⟨y4, y5, y6, rfl, s2, hp⟩ ⟨rfl, hx⟩
          rw [hzs.1] at hj
          have har := hzs.at hj hx
          have ga := gv1 _ (List.getElem_mem hj)
          have hle3 : (acc2 ++ (r.as.take (j + 1)).flatMap eAr).length ≤ 900000 := by
            have := fm_take eAr r.as (j + 1)
            rw [List.length_append] at hle2 ⊢
            omega
          rw [fm_succ eAr hj, ← List.append_assoc] at hle3 ⊢
          generalize r.as[j] = ar at har ga hle3 ⊢
          generalize (acc2 ++ (r.as.take j).flatMap eAr) = acc3 at hp hle3 ⊢
          obtain ⟨c, u, v, rfl, hc, hsh, hck⟩ := har
          have len3 : acc3.length + ((wn ar.n).length + (eSh ar.ds ar.ts).length + (eCs ar.cs).length) ≤ 900000 := by
            rw [List.length_append] at hle3
            unfold eAr at hle3
            rw [List.length_append, List.length_append] at hle3
            omega
          refine ⟨c, _, rfl, SqT.of (s2 _ _ hc), rfl, _, _, rfl, _, _, rfl, _, _, rfl, rfl, ?_⟩
          have gn := ga.n
          refine ⟨_, rfl, .inl ⟨rfl, _, .inl (.inl hp)⟩, _, rfl, ar.n, rfl, by omega, fun H4 p1 s4 n1 e1 => ?_⟩
          refine ⟨_, rfl, u, ar.ds, ar.ts, rfl, hsh.same (s2.trans s4), ga.d, ga.t, by omega, fun H5 p2 s5 n2 e2 => ?_⟩
          have e1b := s5 _ _ e1
          refine ⟨p1, p2, _, _, rfl, rfl, e1b, e2, ?_, fun p3 n3 => ?_⟩
          · rw [List.length_map, List.length_map]
            exact big (by omega)
          have s6 := same_new (o := .lst ((wn ar.n).map V.int ++ (eSh ar.ds ar.ts).map V.int)) n3
          refine ⟨_, rfl, v, ar.cs, rfl, hck.same (s2.trans (s4.trans (s5.trans s6))) (fun _ _ z => z.same (s2.trans (s4.trans (s5.trans s6)))), by omega, fun H7 p4 s7 n4 e4 => ?_⟩
          refine ⟨p3, p4, _, _, rfl, rfl, s7 _ _ upd_same, e4, ?_, fun p5 n5 => ?_⟩
          · rw [List.length_append, List.length_map, List.length_map, List.length_map]
            exact big (by omega)
          have s37 := s4.trans (s5.trans (s6.trans s7))
          refine ⟨p, p5, _, _, rfl, rfl, same_new n5 _ _ (s37 _ _ hp), upd_same, ?_, ?_⟩
          · rw [List.length_append, List.length_append, List.length_map, List.length_map, List.length_map, List.length_map]
            exact big (by omega)
          · refine ⟨_, _, _, rfl, fun z o e => ?_, ?_⟩
            · rw [upd_ne (fun y => by rw [y, np0] at e; cases e)]
              exact same_new n5 _ _ (s37 _ _ (s2 _ _ e))
            · rw [upd_same]
              unfold eAr
              simp only [List.map_append]
        · rintro σ H2 ⟨y4, y5, y6, rfl, s2, hp⟩
          rw [hzs.1, List.take_length] at hp
          exact ⟨_, _, _, _, _, rfl, s2, hp⟩
      · rintro σ H2 ⟨y2, y3, y4, y5, y6, rfl, s2, hp⟩
        rw [hall.1, List.take_length] at hp
        exact ⟨_, _, _, _, _, rfl, s2, hp⟩
    · rintro σ H2 ⟨y2, y3, y4, y5, y6, rfl, s2, hp⟩
      refine ⟨_, rfl, _, rfl, p, _, rfl, .inl (.inl hp), _, rfl, fun p8 n8 => ?_⟩
      have q8 : p ≠ p8 := ne_of_none hp n8
      refine ⟨p, p8, _, _, rfl, rfl, by rw [upd_ne q8]; exact hp, upd_same, ?_, fun p9 n9 => ?_⟩
      · rw [List.length_map, List.length_map]
        exact big (by show _ + 4 ≤ _; omega)
      · refine q _ p9 (fun z o e => same_new n9 _ _ (same_new n8 _ _ (s2 _ _ e))) (s2.free ((same_new n8).free n9)) ?_
        rw [upd_same, List.map_append]
end
end K2

namespace K2
open PySem L2
def ORf : List Str := ["octets", "at"]
structure RdAt (CO : Addr) (H : Hp) (r : Addr) (lo : Addr) (os : List Int) (at_ : Nat) : Prop where
  i : ∃ dx, H r = some (.ins CO dx [("octets", .ref lo), ("at", .int (at_ : Int))])
  o : H lo = some (.lst (os.map V.int))
  le : at_ ≤ os.length
/-- what else stood stays -/
def Ex (H H' : Hp) (r : Addr) : Prop := ∀ a o, H a = some o → a ≠ r → H' a = some o
theorem Ex.trans {H H1 H2 : Hp} {r : Addr} (a : Ex H H1 r) (b : Ex H1 H2 r) : Ex H H2 r := fun x o e n => b x o (a x o e n) n
theorem Ex.same {H H1 H2 : Hp} {r : Addr} (a : Ex H H1 r) (b : Same H1 H2) : Ex H H2 r := fun x o e n => b x o (a x o e n)
theorem Same.ex {H H1 : Hp} {r : Addr} (b : Same H H1) : Ex H H1 r := fun x o e _ => b x o e
theorem RdAt.same {CO : Addr} {H H1 : Hp} {r lo : Addr} {os : List Int} {n : Nat} (h : RdAt CO H r lo os n) (s : Same H H1) : RdAt CO H1 r lo os n := by
  obtain ⟨dx, e⟩ := h.i
  exact ⟨⟨dx, s _ _ e⟩, s _ _ h.o, h.le⟩
theorem drop_add' {os xs rest : List Int} {n : Nat} (h : os.drop n = xs ++ rest) : os.drop (n + xs.length) = rest := by
  rw [← List.drop_drop, h, List.drop_left]
section
variable {P : Program} {w : World} {K : PySem.W.Frag} {mg : Str → Option Value} {base : Heap}
def spORI (K : PySem.W.Frag) (CO : Addr) : Sp := fun vs H Q _ => ∃ (x dx l : Addr) (os : List Int), vs = [.ref x, .ref l] ∧ H x = some (.ins CO dx []) ∧ SqL K H l (os.map V.int) ∧
  ∀ H' lo, Ex H H' x → H lo = none → RdAt CO H' x lo os 0 → Q .non H'
theorem scORI : FnScope ["self", "octets"] ["self", "octets"] (defScope sOctetReaderInit) := ⟨rfl, rfl, rfl, by decide +kernel, rfl, by decide +kernel, by decide +kernel⟩
theorem ok_orI {f CO : Addr} {fd : FuncData} (F : Fun K "__init__" "OctetReader.__init__" sOctetReaderInit f fd) (N : Nm mg) (T : KC K CO f ORf) : FnOk P w K mg base CX0 1 f fd ["self", "octets"] (spORI K CO) := by
  refine F.ok scORI (fun vs H Q E h => ?_) (fun cdv A outer s H vs Q E hr h => ?_)
  · obtain ⟨x, dx, l, os, rfl, _⟩ := h
    rfl
  · obtain ⟨x, dx, l, os, rfl, hx, hl, q⟩ := h
    refine ⟨_, pss_cons (ps_fld (pv 0) (pe_callTy call_list_of (by rfl) N.list (by decide +kernel) (pa_cons (pv 1) pa_nil)) rfl) (pss_one (ps_fld (pv 0) pe_int rfl)), ?_⟩
    refine ⟨_, rfl, l, _, rfl, .inl hl, fun r nr => ?_⟩
    have nxr : x ≠ r := ne_of_none hx nr
    refine ⟨_, rfl, x, CO, dx, [], rfl, by rw [upd_ne nxr]; exact hx, T.cl, T.na _ (by decide +kernel), (by decide), ?_⟩
    refine ⟨_, rfl, x, CO, dx, _, rfl, upd_same, T.cl, T.na _ (by decide +kernel), (by show 1 < 1000; decide), q _ r (fun c o h n => ?_) nr ⟨⟨dx, upd_same⟩, ?_, Nat.zero_le _⟩⟩
    · rw [upd_ne n, upd_ne n, upd_ne (ne_of_none h nr)]
      exact h
    · rw [upd_ne nxr.symm, upd_ne nxr.symm, upd_same]
def spEnd (CO : Addr) : Sp := fun vs H Q _ => ∃ (r lo : Addr) (os : List Int), vs = [.ref r] ∧ RdAt CO H r lo os os.length ∧ Q (.bl true) H
theorem scEnd : FnScope ["self"] ["self"] (defScope sOctetReaderIsAtEnd) := ⟨rfl, rfl, rfl, by decide +kernel, rfl, by decide +kernel, by decide +kernel⟩
theorem ok_end {f fI CO : Addr} {fd : FuncData} (F : Fun K "is_at_end" "OctetReader.is_at_end" sOctetReaderIsAtEnd f fd) (N : Nm mg) (T : KC K CO fI ORf) : FnOk P w K mg base CX0 1 f fd ["self"] (spEnd CO) := by
  refine F.ok scEnd (fun vs H Q E h => ?_) (fun cdv A outer s H vs Q E hr h => ?_)
  · obtain ⟨r, lo, os, rfl, _⟩ := h
    rfl
  · obtain ⟨r, lo, os, rfl, hr', q⟩ := h
    refine ⟨_, pss_one (ps_ret (pe_cmpR op_eq (pe_fld (pv 0) rfl) (pe_callB call_len_seq (by rfl) N.len PySem.boot_len (pa_cons (pe_fld (pv 0) rfl) pa_nil)) (nomark _))), ?_⟩
    obtain ⟨dx, e⟩ := hr'.i
    refine ⟨_, rfl, r, CO, dx, _, _, rfl, e, T.cl, T.na _ (by decide +kernel), rfl, _, rfl, r, CO, dx, _, .ref lo, rfl, e, T.cl, T.na _ (by decide +kernel), rfl, lo, _, rfl, .inl (.inl (.inl hr'.o)), rfl, ?_⟩
    rw [List.length_map, decide_eq_true rfl]
    exact q
def spNO (CO : Addr) : Sp := fun vs H Q _ => ∃ (r lo : Addr) (os xs rest : List Int) (n : Nat), vs = [.ref r, .int (xs.length : Int)] ∧ RdAt CO H r lo os n ∧ os.drop n = xs ++ rest ∧
  ∀ H' q, Ex H H' r → RdAt CO H' r lo os (n + xs.length) → H q = none → H' q = some (.lst (xs.map V.int)) → Q (.ref q) H'
theorem scNO : FnScope ["self", "count", "taken"] ["self", "count"] (defScope sOctetReaderNextOctets) := ⟨rfl, rfl, rfl, by decide +kernel, rfl, by decide +kernel, by decide +kernel⟩
theorem ok_no {f fI CO : Addr} {fd : FuncData} (F : Fun K "next_octets" "OctetReader.next_octets" sOctetReaderNextOctets f fd) (N : Nm mg) (T : KC K CO fI ORf) : FnOk P w K mg base CX0 1 f fd ["self", "count"] (spNO CO) := by
  refine F.ok scNO (fun vs H Q E h => ?_) (fun cdv A outer s H vs Q E hr h => ?_)
  · obtain ⟨r, lo, os, xs, rest, n, rfl, _⟩ := h
    rfl
  · obtain ⟨r, lo, os, xs, rest, n, rfl, hr', hd, q⟩ := h
    refine ⟨_, pss_cons (ps_if (pt_cmpR op_gt (pv 1) (pe_op op_sub (pe_callB call_len_seq (by rfl) N.len PySem.boot_len (pa_cons (pe_fld (pv 0) rfl) pa_nil)) (pe_fld (pv 0) rfl)) (nomark _)) pss_dead pss_nil)
      (pss_cons (ps_set (i := 2) scNO.nd rfl (.inl rfl) (pe_slice sl_list (pe_fld (pv 0) rfl) (po_some (pe_fld (pv 0) rfl)) (po_some (pe_op op_add (pe_fld (pv 0) rfl) (pv 1)))))
      (pss_cons (ps_fldaug (pv 0) (pv 1) in_add)
      (pss_one (ps_ret (pv 2))))), ?_⟩
    obtain ⟨dx, e⟩ := hr'.i
    have fa : ∀ f, f ∈ ORf → NoAttr K CO f := T.na
    have hlen : n + xs.length ≤ os.length := by
      have := congrArg List.length hd
      rw [List.length_drop, List.length_append] at this
      have := hr'.le
      omega
    refine ⟨_, rfl, _, rfl, r, CO, dx, _, .ref lo, rfl, e, T.cl, T.na _ (by decide +kernel), rfl, lo, _, rfl, .inl (.inl (.inl hr'.o)), _, rfl, r, CO, dx, _, .int (n : Int), rfl, e, T.cl, T.na _ (by decide +kernel), rfl, _, _, rfl, rfl, _, _, rfl, rfl, _, rfl, ?_⟩
    refine iteBF (decide_eq_false (by rw [List.length_map]; omega)) ?_
    refine ⟨_, rfl, r, CO, dx, _, .ref lo, rfl, e, T.cl, T.na _ (by decide +kernel), rfl, _, rfl, r, CO, dx, _, .int (n : Int), rfl, e, T.cl, T.na _ (by decide +kernel), rfl, _, rfl, _, rfl, r, CO, dx, _, .int (n : Int), rfl, e, T.cl, T.na _ (by decide +kernel), rfl, _, rfl, _, _, rfl, rfl, _, rfl, lo, _, rfl, .inl (.inl hr'.o), fun p np => ?_⟩
    have nrp : r ≠ p := ne_of_none e np
    refine ⟨_, rfl, r, CO, dx, _, .int (n : Int), rfl, same_new np _ _ e, T.cl, T.na _ (by decide +kernel), rfl, _, rfl, _, _, rfl, rfl, dx, _, same_new np _ _ e, (by show 2 < 1000; decide), ?_⟩
    refine ⟨_, rfl, q _ p (fun a o h m => ?_) ⟨⟨dx, ?_⟩, ?_, hlen⟩ np ?_⟩
    · rw [upd_ne m]
      exact same_new np _ _ h
    · rw [upd_same, show ((n + xs.length : Nat) : Int) = (n : Int) + (xs.length : Int) from by omega]
      rfl
    · rw [upd_ne (ne_of hr'.o e (by intro z; cases z))]
      exact same_new np _ _ hr'.o
    · rw [upd_ne nrp.symm, upd_same, cutab, ← List.map_drop, ← List.map_take, hd, List.take_left]
def spOf (K : PySem.W.Frag) (CO : Addr) : Sp := fun vs H Q _ => ∃ (r lo t : Addr) (os rest ls : List Int) (o : Int) (n : Nat), vs = [.ref r, .ref t] ∧ RdAt CO H r lo os n ∧ os.drop n = o :: rest ∧ (∀ H', Ex H H' r → SqT K H' t (ls.map V.int)) ∧ o ∈ ls ∧
  ∀ H', Ex H H' r → RdAt CO H' r lo os (n + 1) → Q (.int o) H'
theorem scOf : FnScope ["self", "allowed", "first", "octet"] ["self", "allowed"] (defScope sOctetReaderNextOctetOf) := ⟨rfl, rfl, rfl, by decide +kernel, rfl, by decide +kernel, by decide +kernel⟩
theorem flat_ints (ls : List Int) : (ls.map V.int).all flatV = true := by
  rw [List.all_eq_true]
  intro x hx
  obtain ⟨i, _, rfl⟩ := List.mem_map.mp hx
  rfl
theorem inV_int {o : Int} {ls : List Int} (h : o ∈ ls) : inV (.int o) (ls.map V.int) = true := by
  unfold inV
  rw [List.any_eq_true]
  exact ⟨.int o, List.mem_map.mpr ⟨o, h, rfl⟩, by show (o == o) = true; exact beq_self_eq_true o⟩
theorem ok_of {f fI fN CO : Addr} {fd fdN : FuncData} (F : Fun K "next_octet_of" "OctetReader.next_octet_of" sOctetReaderNextOctetOf f fd) (T : KC K CO fI ORf) (GN : FnOk P w K mg base CX0 1 fN fdN ["self", "count"] (spNO CO)) (bN : Binds K fdN ["self", "count"] []) (mN : Meth K CO "next_octets" fN) : FnOk P w K mg base CX0 2 f fd ["self", "allowed"] (spOf K CO) := by
  have GN' : FnOk P w K mg base CX0 1 fN fdN ["self", "count"] (spNO CO) := GN
  refine F.ok scOf (fun vs H Q E h => ?_) (fun cdv A outer s H vs Q E hr h => ?_)
  · obtain ⟨r, lo, t, os, rest, ls, o, n, rfl, _⟩ := h
    rfl
  · obtain ⟨r, lo, t, os, rest, ls, o, n, rfl, hr', hd, ht, ho, q⟩ := h
    refine ⟨_, pss_cons (ps_set (i := 2) scOf.nd rfl (.inl rfl) (pe_fld (pv 0) rfl))
      (pss_cons (ps_set (i := 3) scOf.nd rfl (.inl rfl) (pe_ix ix_list (pe_meth (pv 0) T.cl mN GN' hr bN .nil pass0 (pa_cons pe_int pa_nil)) pe_int (fun _ _ => rfl)))
      (pss_cons (ps_if (pt_cmpR op_notIn_seq (pv 3) (pv 1) (by rfl)) pss_dead pss_nil)
      (pss_one (ps_ret (pv 3))))), ?_⟩
    obtain ⟨dx, e⟩ := hr'.i
    refine ⟨_, rfl, r, CO, dx, _, .int (n : Int), rfl, e, T.cl, T.na _ (by decide +kernel), rfl, ?_⟩
    refine ⟨_, rfl, r, dx, _, rfl, e, rfl, ?_⟩
    refine ⟨r, lo, os, [o], rest, n, rfl, hr', hd, fun H' p ex rd np hp => ?_⟩
    refine ⟨p, _, 0, .int o, rfl, rfl, .inl (.inl hp), rfl, ?_⟩
    refine ⟨_, rfl, _, rfl, t, _, rfl, .inr (ht _ ex), rfl, flat_ints _, _, rfl, ?_⟩
    rw [inV_int ho]
    exact iteF ⟨_, rfl, q _ ex rd⟩
theorem four_of {n : Int} (h0 : 0 ≤ n) (h1 : n < 4294967296) : ((((0 : Int) * 256 + n / 16777216 % 256) * 256 + n / 65536 % 256) * 256 + n / 256 % 256) * 256 + n % 256 = n := by omega
def fo (os : List Int) : Int := os.foldl (fun a o => a * 256 + o) 0
theorem fo_w4 {n : Int} (h0 : 0 ≤ n) (h1 : n < 4294967296) : fo (w4 n) = n := four_of h0 h1
def spN4 (CO : Addr) : Sp := fun vs H Q _ => ∃ (r lo : Addr) (os rest : List Int) (m : Int) (n : Nat), vs = [.ref r] ∧ RdAt CO H r lo os n ∧ os.drop n = w4 m ++ rest ∧ 0 ≤ m ∧ m < 4294967296 ∧ ∀ H', Ex H H' r → RdAt CO H' r lo os (n + 4) → Q (.int m) H'
theorem scN4 : FnScope ["self", "number", "octet"] ["self"] (defScope sOctetReaderNextFour) := ⟨rfl, rfl, rfl, by decide +kernel, rfl, by decide +kernel, by decide +kernel⟩
theorem ok_n4 {f fI fN CO : Addr} {fd fdN : FuncData} (F : Fun K "next_four" "OctetReader.next_four" sOctetReaderNextFour f fd) (T : KC K CO fI ORf) (GN : FnOk P w K mg base CX0 1 fN fdN ["self", "count"] (spNO CO)) (bN : Binds K fdN ["self", "count"] []) (mN : Meth K CO "next_octets" fN) : FnOk P w K mg base CX0 2 f fd ["self"] (spN4 CO) := by
  refine F.ok scN4 (fun vs H Q E h => ?_) (fun cdv A outer s H vs Q E hr h => ?_)
  · obtain ⟨r, lo, os, rest, m, n, rfl, _⟩ := h
    rfl
  · obtain ⟨r, lo, os, rest, m, n, rfl, hr', hd, m0, m1, q⟩ := h
    refine ⟨_, pss_cons (ps_set (i := 1) scN4.nd rfl (.inl rfl) pe_int)
      (pss_cons (ps_for PassesOwn.never rfl (pi_list (pe_meth (pv 0) T.cl mN GN hr bN .nil pass0 (pa_cons pe_int pa_nil))) (pg_name (i := 2) scN4.nd rfl (.inl rfl))
        (pss_one (ps_set (i := 1) scN4.nd rfl (.inl rfl) (pe_op op_add (pe_op op_mul (pv 1) pe_int) (pv 2)))))
      (pss_one (ps_ret (pv 1)))), ?_⟩
    obtain ⟨dx, e⟩ := hr'.i
    refine ⟨_, rfl, r, dx, _, rfl, e, rfl, ?_⟩
    refine ⟨r, lo, os, w4 m, rest, n, rfl, hr', hd, fun H' p ex rd np hp => ?_⟩
    refine ⟨p, rfl, ⟨_, .inl (.inl hp)⟩, for_it (walk_list (xs := (w4 m).map V.int)) (fun i σ H2 => ∃ y2, σ = [some (.ref r), some (.int (fo ((w4 m).take i))), y2] ∧ H2 = H') ?_ ?_ ?_ ?_⟩
    · exact ⟨none, rfl, rfl⟩
    · rintro i σ H2 hi ⟨y2, rfl, rfl⟩
      exact .inl (.inl hp)
    · rintro i x σ H2 H3 hi ⟨y2, rfl, rfl⟩ ⟨rfl, hx⟩
      rw [List.length_map] at hi
      rw [List.getElem?_map, List.getElem?_eq_getElem hi] at hx
      obtain rfl := Option.some.inj hx
      have ef : fo ((w4 m).take (i + 1)) = fo ((w4 m).take i) * 256 + (w4 m)[i] := by
        unfold fo
        rw [List.take_add_one, List.getElem?_eq_getElem hi, List.foldl_append]
        rfl
      rw [ef]
      exact ⟨_, rfl, _, _, rfl, rfl, .inr ⟨by decide, by decide⟩, _, rfl, _, _, rfl, rfl, _, rfl, rfl⟩
    · rintro σ H2 ⟨y2, rfl, rfl⟩
      rw [List.length_map, List.take_length, fo_w4 m0 m1]
      exact ⟨_, rfl, q _ ex rd⟩
def spN4i (CO : Addr) : Sp := fun vs H Q _ => ∃ (r lo : Addr) (os rest : List Int) (m a b : Int) (n : Nat), vs = [.ref r, .int a, .int b] ∧ RdAt CO H r lo os n ∧ os.drop n = w4 m ++ rest ∧ 0 ≤ m ∧ m < 4294967296 ∧ a ≤ m ∧ m ≤ b ∧ ∀ H', Ex H H' r → RdAt CO H' r lo os (n + 4) → Q (.int m) H'
theorem scN4i : FnScope ["self", "least", "greatest", "first", "number"] ["self", "least", "greatest"] (defScope sOctetReaderNextFourIn) := ⟨rfl, rfl, rfl, by decide +kernel, rfl, by decide +kernel, by decide +kernel⟩
theorem ok_n4i {f fI fN CO : Addr} {fd fdN : FuncData} (F : Fun K "next_four_in" "OctetReader.next_four_in" sOctetReaderNextFourIn f fd) (T : KC K CO fI ORf) (GN : FnOk P w K mg base CX0 2 fN fdN ["self"] (spN4 CO)) (bN : Binds K fdN ["self"] []) (mN : Meth K CO "next_four" fN) : FnOk P w K mg base CX0 3 f fd ["self", "least", "greatest"] (spN4i CO) := by
  refine F.ok scN4i (fun vs H Q E h => ?_) (fun cdv A outer s H vs Q E hr h => ?_)
  · obtain ⟨r, lo, os, rest, m, a, b, n, rfl, _⟩ := h
    rfl
  · obtain ⟨r, lo, os, rest, m, a, b, n, rfl, hr', hd, m0, m1, ha, hb, q⟩ := h
    refine ⟨_, pss_cons (ps_set (i := 3) scN4i.nd rfl (.inl rfl) (pe_fld (pv 0) rfl))
      (pss_cons (ps_set (i := 4) scN4i.nd rfl (.inl rfl) (pe_meth0 (pv 0) T.cl mN GN hr bN .nil pass0))
      (pss_cons (ps_if (pt_not (pt_chain op_le op_le (pv 1) (pv 4) (pv 2))) pss_dead pss_nil)
      (pss_one (ps_ret (pv 4))))), ?_⟩
    obtain ⟨dx, e⟩ := hr'.i
    refine ⟨_, rfl, r, CO, dx, _, .int (n : Int), rfl, e, T.cl, T.na _ (by decide +kernel), rfl, ?_⟩
    refine ⟨_, rfl, r, dx, _, rfl, e, rfl, r, lo, os, rest, m, n, rfl, hr', hd, m0, m1, fun H' ex rd => ?_⟩
    refine ⟨_, rfl, _, rfl, _, _, rfl, rfl, _, rfl, iteB (decide_eq_true ha) ⟨_, rfl, _, _, rfl, rfl, _, rfl, ?_⟩⟩
    rw [decide_eq_true hb]
    exact iteF ⟨_, rfl, q _ ex rd⟩
end
end K2

namespace K2
open PySem L2
def NMS : List Str := ["x", "y", "v", "w", "a", "b", "long"]
def NCH : Str := "ABCDEFGHIJKLMNOPQRSTUVWXYZabcdefghijklmnopqrstuvwxyz0123456789_"
def DIG : Str := "0123456789"
def CHS2 : Str := " !\"#$\n&'()*+,-./0123456789:;<=>?@ABCDEFGHIJKLMNOPQRSTUVWXYZ[\\]^_`abcdefghijklmnopqrstuvwxyz{|}~"
def hd0 (z : Str) : Nat := z.cps.toList.getD 0 0
def sg (c : Nat) : Str := ⟨#[c]⟩
structure Ct4 (mg : Str → Option Value) : Prop where
  lf : ∃ v, mg "LINE_FEED" = some v ∧ RelV (.int 10) v
  sp : ∃ v, mg "SPACE" = some v ∧ RelV (.int 32) v
  pc : ∃ v, mg "PERCENT_SIGN" = some v ∧ RelV (.int 37) v
  ti : ∃ v, mg "TILDE" = some v ∧ RelV (.int 126) v
  ch : ∃ v, mg "CHARACTERS" = some v ∧ RelV (.str CHS2) v
  nc : ∃ v, mg "NAME_CHARACTERS" = some v ∧ RelV (.str NCH) v
  dg : ∃ v, mg "DIGITS" = some v ∧ RelV (.str DIG) v
  lg : ∃ v, mg "LONGEST_NAME" = some v ∧ RelV (.int 30) v
theorem nm_len : ∀ z ∈ NMS, 1 ≤ z.length ∧ z.length ≤ 4 := by decide +kernel
theorem nm_strip : ∀ z ∈ NMS, Txt.stripChars z NCH = ("" : Str) := by decide +kernel
theorem nm_hd : ∀ z ∈ NMS, z.cps.toList[0]? = some (hd0 z) ∧ ¬ hd0 z ∈ DIG.cps.toList := by decide +kernel
theorem nm_codes : ∀ z ∈ NMS, ∀ c ∈ z.cps.toList, 48 ≤ c ∧ c ≤ 122 := by decide +kernel
theorem ch_tab : ∀ c, c < 123 → 48 ≤ c → CHS2.cps.toList[c - 32]? = some c := by decide +kernel
theorem nm_sum : ∀ z ∈ NMS, (List.map (fun x => x.length) (List.map sg z.cps.toList)).sum + (List.map sg z.cps.toList).length * ("" : Str).length ≤ 4 := by decide +kernel
theorem nm_join : ∀ z ∈ NMS, Txt.join ("" : Str) (z.cps.toList.map sg) = z := by decide +kernel
theorem str_eq' (a b : Str) : decide (V.str a = V.str b) = decide (a = b) := str_eq a b
section
variable {P : Program} {w : World} {K : PySem.W.Frag} {mg : Str → Option Value} {base : Heap}
def spCode : Sp := fun vs H Q _ => ∃ c : Nat, vs = [.int (c : Int)] ∧ 48 ≤ c ∧ c ≤ 122 ∧ Q (.bl true) H
theorem scCode : FnScope ["octet"] ["octet"] (defScope sIsCode) := ⟨rfl, rfl, rfl, by decide +kernel, rfl, by decide +kernel, by decide +kernel⟩
theorem ok_code {f : Addr} {fd : FuncData} (F : Fun K "is_code" "is_code" sIsCode f fd) (N : Ct4 mg) : FnOk P w K mg base CX0 1 f fd ["octet"] spCode := by
  refine F.ok scCode (fun vs H Q E h => ?_) (fun cdv A outer s H vs Q E hr h => ?_)
  · obtain ⟨n, rfl, _⟩ := h
    rfl
  · obtain ⟨n, rfl, h0, h1, q⟩ := h
    obtain ⟨u1, m1, r1⟩ := N.lf
    obtain ⟨u2, m2, r2⟩ := N.sp
    obtain ⟨u3, m3, r3⟩ := N.pc
    obtain ⟨u4, m4, r4⟩ := N.ti
    refine ⟨_, pss_one (ps_ret (pe_or (pe_cmpR op_eq (pv 0) (pe_glob (by rfl) m1 r1) (nomark _)) (pe_one (pe_and (pe_chain op_le op_le (pe_glob (by rfl) m2 r2) (pv 0) (pe_glob (by rfl) m4 r4)) (pe_one (pe_cmpR op_ne (pv 0) (pe_glob (by rfl) m3 r3) (nomark _))))))), ?_⟩
    refine ⟨_, rfl, rfl, _, rfl, iteBF (decide_eq_false fun z => by have := V.int.inj z; omega) ⟨_, rfl, 32, _, rfl, rfl, _, rfl, iteB (decide_eq_true (by omega)) ⟨_, 126, rfl, rfl, _, rfl, iteB (decide_eq_true (by omega)) ⟨_, rfl, rfl, ?_⟩⟩⟩⟩
    rw [decide_eq_false fun z => by have := V.int.inj z; omega]
    exact q
def spChar : Sp := fun vs H Q _ => ∃ c : Nat, vs = [.int (c : Int)] ∧ 48 ≤ c ∧ c ≤ 122 ∧ Q (.str (sg c)) H
theorem scChar : FnScope ["code"] ["code"] (defScope sCharacterOf) := ⟨rfl, rfl, rfl, by decide +kernel, rfl, by decide +kernel, by decide +kernel⟩
theorem ok_char {f : Addr} {fd : FuncData} (F : Fun K "character_of" "character_of" sCharacterOf f fd) (N : Ct4 mg) : FnOk P w K mg base CX0 1 f fd ["code"] spChar := by
  refine F.ok scChar (fun vs H Q E h => ?_) (fun cdv A outer s H vs Q E hr h => ?_)
  · obtain ⟨c, rfl, _⟩ := h
    rfl
  · obtain ⟨c, rfl, h0, h1, q⟩ := h
    obtain ⟨u1, m1, r1⟩ := N.lf
    obtain ⟨u2, m2, r2⟩ := N.sp
    obtain ⟨u3, m3, r3⟩ := N.ch
    refine ⟨_, pss_cons (ps_if (pt_cmpR op_eq (pv 0) (pe_glob (by rfl) m1 r1) (nomark _)) (pss_one (ps_ret pe_str)) pss_nil)
      (pss_one (ps_ret (pe_ix ix_str (pe_glob (by rfl) m3 r3) (pe_op op_sub (pv 0) (pe_glob (by rfl) m2 r2)) (fun _ _ => rfl)))), ?_⟩
    refine ⟨_, rfl, rfl, _, rfl, iteBF (decide_eq_false fun z => by have := V.int.inj z; omega) ?_⟩
    refine ⟨_, rfl, _, _, rfl, rfl, CHS2, _, c, rfl, rfl, (by decide +kernel), ?_, q⟩
    have : (c : Int) - 32 = ((c - 32 : Nat) : Int) := by omega
    show atI CHS2.cps.toList ((c : Int) - 32) = some c
    rw [this]
    exact atI_nat (ch_tab c (by omega) h0)
def spDec : Sp := fun vs H Q _ => ∃ (a : Addr) (z : Str), vs = [.ref a] ∧ H a = some (.lst ((nmo z).map V.int)) ∧ z ∈ NMS ∧ ∀ H', Same H H' → Q (.str z) H'
theorem scDec : FnScope ["octets", "index", "octet"] ["octets"] (defScope sDecodeText) := ⟨rfl, rfl, rfl, by decide +kernel, rfl, by decide +kernel, by decide +kernel⟩
theorem nmo_at {z : Str} {i : Nat} {x : V} (h : ((nmo z).map V.int)[i]? = some x) : ∃ c : Nat, z.cps.toList[i]? = some c ∧ x = .int (c : Int) := by
  unfold nmo at h
  rw [List.getElem?_map, List.getElem?_map] at h
  cases e : z.cps.toList[i]? with
  | none => rw [e] at h; cases h
  | some c =>
    rw [e] at h
    exact ⟨c, rfl, (Option.some.inj h).symm⟩
theorem ok_dec {f fC fH : Addr} {fd fdC fdH : FuncData} (F : Fun K "decode_text" "decode_text" sDecodeText f fd) (M : Nm mg) (N : Ct4 mg) (FC : Fun K "is_code" "is_code" sIsCode fC fdC) (bC : Binds K fdC ["octet"] []) (gC : mg "is_code" = some (.ref fC))
    (FH : Fun K "character_of" "character_of" sCharacterOf fH fdH) (bH : Binds K fdH ["code"] []) (gH : mg "character_of" = some (.ref fH)) : FnOk P w K mg base CX0 2 f fd ["octets"] spDec := by
  have GC : FnOk P w K mg base CX0 1 fC fdC ["octet"] spCode := ok_code FC N
  have GH : FnOk P w K mg base CX0 1 fH fdH ["code"] spChar := ok_char FH N
  refine F.ok scDec (fun vs H Q E h => ?_) (fun cdv A outer s H vs Q E hr h => ?_)
  · obtain ⟨a, z, rfl, _⟩ := h
    rfl
  · obtain ⟨a, z, rfl, ha, hz, q⟩ := h
    have hl := nm_len z hz
    have hcs := nm_codes z hz
    refine ⟨_, pss_cons (ps_for PassesOwn.never rfl (pi_enum (by rfl) M.enumerate (pa_cons (pv 0) pa_nil)) (pg_tup (by rfl) (pgs_cons (pg_name (i := 1) scDec.nd rfl (.inl rfl)) (pgs_cons (pg_name (i := 2) scDec.nd rfl (.inl rfl)) pgs_nil)))
        (pss_one (ps_if (pt_not (pt_val (pe_call GC hr (by rfl) gC FC.kp bC .nil pass0 (pa_cons (pv 2) pa_nil)))) pss_dead pss_nil)))
      (pss_one (ps_ret (pe_join pe_str (pe_lc (own := [("octet", 2)]) (g := gName 2) (tt := tYes) rfl scDec.nd (pi_list (pv 0))
        (blkOk_by (N := ["octets", "index", "octet"]) (sc := defScope sDecodeText) (by decide +kernel))
        (fun _ _ _ _ _ => pg_name (i := 2) scDec.nd rfl (Or.inl rfl)) (fun _ _ _ _ _ => pts_nil)
        (fun _ _ _ _ _ => pe_call GH hr (by rfl) gH FH.kp bH .nil pass0 (pa_cons (pv 2) pa_nil)))))), ?_⟩
    refine ⟨.ref a, rfl, a, _, rfl, .inl (.inl ha), ?_⟩
    refine for_it (walk_enum (xs := (nmo z).map V.int)) (fun i σ H3 => ∃ y1 y2, σ = [some (.ref a), y1, y2] ∧ Same H H3) ⟨_, _, rfl, Same.refl _⟩ ?_ ?_ ?_
    · rintro i σ H3 hi ⟨y1, y2, rfl, sm⟩
      exact .inl (.inl (sm _ _ ha))
    · rintro i x σ H3 H' hi ⟨y1, y2, rfl, sm⟩ ⟨Tp, x1, x2, rfl, nT, rfl, f1, f2⟩
      obtain ⟨c, c1, rfl⟩ := nmo_at f2
      have hc := hcs c (List.mem_of_getElem? c1)
      refine ⟨Tp, _, rfl, .inl (.inl upd_same), rfl, _, _, rfl, _, _, rfl, rfl, ?_⟩
      exact ⟨_, rfl, c, rfl, hc.1, hc.2, true, rfl, iteF ⟨_, _, rfl, sm.trans (same_new nT)⟩⟩
    · rintro σ H3 ⟨y1, y2, rfl, sm⟩
      refine ⟨⟨_, rfl⟩, .ref a, rfl, a, rfl, ⟨_, .inl (.inl (sm _ _ ha))⟩, fun D nD => ?_⟩
      refine lc_it (walk_list (xs := (nmo z).map V.int)) (fun i H4 => Same H3 H4 ∧ H4 D = some (.lst (((z.cps.toList.take i).map sg).map V.str))) ⟨same_new nD, upd_same⟩ (fun i H4 _ p => .inl (.inl (p.1 _ _ (sm _ _ ha)))) ?_ ?_
      · rintro i x H4 H' hi ⟨s4, hD⟩ ⟨rfl, hx⟩
        obtain ⟨c, c1, rfl⟩ := nmo_at hx
        have hc := hcs c (List.mem_of_getElem? c1)
        refine ⟨rfl, ?_⟩
        dsimp only [tYes]
        rw [if_pos rfl]
        refine ⟨_, rfl, c, rfl, hc.1, hc.2, _, hD, ?_, same_put s4 nD, ?_⟩
        · rw [List.length_map, List.length_map, List.length_take]
          exact small1000 (by have : z.cps.toList.length = z.length := by simp [Str.length]
                              omega)
        · rw [upd_same, List.take_add_one, c1, List.map_append, List.map_append]
          rfl
      · rintro H4 ⟨s4, hD⟩
        have e0 : ((nmo z).map V.int).length = z.cps.toList.length := by
          rw [List.length_map]
          unfold nmo
          rw [List.length_map]
        rw [e0, List.take_length] at hD
        refine ⟨("" : Str), D, z.cps.toList.map sg, rfl, rfl, .inl (.inl (.inl hD)), ?_, ?_⟩
        · exact Nat.le_trans (nm_sum z hz) (by decide)
        · rw [nm_join z hz]
          exact q _ (sm.trans s4)
def spSimple : Sp := fun vs H Q _ => ∃ z : Str, vs = [.str z] ∧ z ∈ NMS ∧ Q (.bl true) H
theorem scSimple : FnScope ["text"] ["text"] (defScope sIsSimpleName) := ⟨rfl, rfl, rfl, by decide +kernel, rfl, by decide +kernel, by decide +kernel⟩
theorem ok_simple {f : Addr} {fd : FuncData} (F : Fun K "is_simple_name" "is_simple_name" sIsSimpleName f fd) (M : Nm mg) (N : Ct4 mg) : FnOk P w K mg base CX0 1 f fd ["text"] spSimple := by
  refine F.ok scSimple (fun vs H Q E h => ?_) (fun cdv A outer s H vs Q E hr h => ?_)
  · obtain ⟨z, rfl, _⟩ := h
    rfl
  · obtain ⟨z, rfl, hz, q⟩ := h
    have hl := nm_len z hz
    have hz2 : z.length ≤ sizeLine := Nat.le_trans hl.2 (by decide)
    obtain ⟨u1, m1, r1⟩ := N.nc
    obtain ⟨u2, m2, r2⟩ := N.dg
    obtain ⟨u3, m3, r3⟩ := N.lg
    refine ⟨_, pss_cons (ps_if (pt_not (pt_chain op_le op_le pe_int (pe_callB call_len_str (by rfl) M.len PySem.boot_len (pa_cons (pv 0) pa_nil)) (pe_glob (by rfl) m3 r3))) (pss_one (ps_ret pe_bl)) pss_nil)
      (pss_one (ps_ret (pe_and (pe_cmpR op_eq (pe_m1 PySem.F.slot_str_strip PySem.F.type_str_strip mt_stripChars (pv 0) (pe_glob (by rfl) m1 r1)) pe_str (nomark _)) (pe_one (pe_cmpR op_notInS (pe_ix ix_str (pv 0) pe_int (fun _ _ => rfl)) (pe_glob (by rfl) m2 r2) (by rfl)))))), ?_⟩
    refine ⟨_, rfl, z, rfl, hz2, 1, (z.length : Int), rfl, rfl, _, rfl, iteB (decide_eq_true (by omega)) ⟨(z.length : Int), 30, rfl, rfl, _, rfl, iteBF ?_ ?_⟩⟩
    · rw [decide_eq_true (by omega)]; rfl
    refine ⟨_, rfl, ⟨z, rfl⟩, z, NCH, rfl, rfl, hz2, rfl, _, rfl, ?_⟩
    rw [nm_strip z hz]
    refine iteB (decide_eq_true rfl) ⟨_, rfl, z, 0, hd0 z, rfl, rfl, hz2, atI_nat (j := 0) (nm_hd z hz).1, hd0 z, DIG, rfl, rfl, ?_⟩
    rw [decide_eq_false (nm_hd z hz).2]
    exact q
end
end K2

/-! enumerate over a tuple -/
namespace K2
open PySem PySem.Spec PyProof.Rows L2
section
variable {prog : Program} {w : World} {A : Around} {E : Value → Shared → Prop} {s : Shared}
theorem enew1 {v : Value} {o : Obj} {Hh : Heap → Prop} (B : Begins v o Hh) : Meets (Builtin.«enumerate.__new__» ⟨[.type "enumerate", v], []⟩) (fun _ R s0 => Hh s0.heap ∧
    R (.ok (.ret (.ref (s0.heap.push o).objs.size))) { s0 with heap := (s0.heap.push o).push ⟨.type "enumerate", none, .fields #[.none, .bool false, .ref s0.heap.objs.size, rawInt 0, .none, .none], #[]⟩ }) := .of_wp fun pr w0 A0 R s0 z => by
  obtain ⟨z1, z2⟩ := z
  obtain ⟨hp, g, dd, tk, os⟩ := s0
  have sb := sub_enumerate
  have it1 : ∀ {A' : Around} {E' : Value → Shared → Prop} {Q' : Value → Shared → Prop}, Q' (.ref hp.objs.size) ⟨hp.push o, g, dd, tk, os⟩ → wpAny (model pr w0) A' (pyIter v) Q' E' ⟨hp, g, dd, tk, os⟩ := fun z3 => B.iter pr w0 _ _ ⟨hp, g, dd, tk, os⟩ _ z1 z3
  wp_walk using it1
  refine wpAny_stack_any fun _ => ?_
  refine wpAny_pure ?_
  split
  · rename_i c _ _ _ _ _
    cases (c == Value.type "enumerate") <;> (wp_walk using it1; exact ⟨_, rfl, z2⟩)
  · wp_walk using it1
    exact ⟨_, rfl, z2⟩
theorem ecall1 {v : Value} {o : Obj} {Hh : Heap → Prop} {Q : Value → Shared → Prop} (B : Begins v o Hh) (z1 : Hh s.heap)
    (z : ∀ h2, IsEnum h2 (s.heap.objs.size + 1) s.heap.objs.size 0 .none → h2.get? s.heap.objs.size = some o → (∀ b u, s.heap.get? b = some u → h2.get? b = some u) → Q (.ref (s.heap.objs.size + 1)) { s with heap := h2 }) :
    wpAny (model prog w) A (call (.type "enumerate") [v]) Q E s := by
  have sz : (s.heap.push o).objs.size = s.heap.objs.size + 1 := Heap.size_push ..
  refine callType_new F.called_enumerate (by decide) (F.typeCall_enumerate_1 _) (F.newCall_enumerate_1 _) (fun ob => F.args_object_init_2 ob _) F.entry_enumerate_new (enew1 B) ⟨z1, ?_⟩
  show _ ∧ _
  rw [sz]
  have en : IsEnum ((s.heap.push o).push ⟨.type "enumerate", none, .fields #[.none, .bool false, .ref s.heap.objs.size, rawInt 0, .none, .none], #[]⟩) (s.heap.objs.size + 1) s.heap.objs.size 0 .none := by
    have y := Heap.get?_push_size (s.heap.push o) (o := ⟨.type "enumerate", none, .fields #[.none, .bool false, .ref s.heap.objs.size, rawInt 0, .none, .none], #[]⟩) rfl
    rw [sz] at y
    exact y
  exact ⟨⟨_, en, rfl⟩, z _ en (Heap.get?_push_of_some _ (Heap.get?_push_size _ B.free)) fun b u y => Heap.get?_push_of_some _ (Heap.get?_push_of_some _ y)⟩
end
/-- the tuple at a, each item in a new pair with its number -/
def IteT (K : PySem.W.Frag) (a : Addr) (xs : List V) : It :=
  ⟨fun i H => SqT K H a xs ∧ i < xs.length, fun i H v H' => ∃ T x, v = .ref T ∧ H T = none ∧ H' = upd H T (.tup [.int (i : Nat), x]) ∧ xs[i]? = some x, fun i H => SqT K H a xs ∧ xs.length = i⟩
theorem tu_enumT {P : Program} {w : World} {K : PySem.W.Frag} {elts : List Expr} {kk : Nat} {tpos : Pos} (a e it : Addr) (xs : List V) :
    Turn P w K (.Tuple elts kk tpos) (IteT K a xs) [e, it] e (fun i h => (∃ old, IsEnum h e it ((i : Nat) : Int) old) ∧ h.IsTupleIter it a i ∧ e ≠ it) := by
  have apart : ∀ {h : Heap} {i : Nat} {old : Value} {its : Array Value}, IsEnum h e it (i : Int) old → h.IsTupleIter it a i → h.IsTuple a its → e ≠ a ∧ a ≠ it := by
    rintro h i old its q1 ⟨o, q2, q3, _⟩ ⟨o', q4, q5, _⟩
    refine ⟨fun z => ?_, fun z => ?_⟩
    · rw [← z, q1] at q4
      have y := Option.some.inj q4
      rw [← y] at q5
      exact absurd (Value.type.inj q5) (by decide)
    · rw [z, q2] at q4
      have y := Option.some.inj q4
      rw [← y, q3] at q5
      exact absurd (Value.type.inj q5) (by decide)
  refine ⟨by simp, ?_, ?_, ?_, ?_, ?_⟩
  · rintro i h ⟨⟨old, q1⟩, ⟨o, q2, q3, q4⟩, _⟩ b hb
    rcases List.mem_cons.mp hb with rfl | hb
    · exact ⟨_, q1, fun v z => nomatch z⟩
    · rw [List.mem_singleton.mp hb]
      exact ⟨o, q2, fun v z => by rw [q4] at z; cases z⟩
  · rintro i h h' ⟨⟨old, q1⟩, q2, q3⟩ k
    exact ⟨⟨old, k e (by simp) _ q1⟩, q2.at fun o q => k it (by simp) o q, q3⟩
  · intro X hP hw hK hc i pins s σ H E I hf st hg
    subst hP hw hK
    obtain ⟨⟨old, q1⟩, q2, ne⟩ := st
    obtain ⟨hq, hi⟩ := hg
    obtain ⟨its, rv, p, _⟩ := I.tuple hq
    have pt : s.heap.IsTuple a its.toArray := p
    obtain ⟨na, nt⟩ := apart q1 q2 pt
    have hi2 : i < its.toArray.size := by rw [List.size_toArray, ← rv.length]; exact hi
    obtain ⟨u, hu, ru⟩ := rv.get (List.getElem?_eq_getElem hi)
    have l1 : e < s.heap.objs.size := Heap.lt_size q1
    have l2 : it < s.heap.objs.size := by obtain ⟨_, q, _⟩ := q2; exact Heap.lt_size q
    refine wpAny_pyNext_enum_itemD (Draws.tuple (prog := X.prog) (w := X.w) (A := X.A.in1) (I.ok.hd hc) it a nt its.toArray) q1 ⟨q2, pt⟩ hi2 ne (by simp [ne, na]) fun x h2 tk hPx ho hst hT hsz hk => ?_
    have ex : x = u := by
      have y : its.toArray[i]? = some x := hPx
      rw [List.getElem?_toArray, hu] at y
      exact (Option.some.inj y).symm
    subst ex
    refine ⟨_, rfl, wpAny_letOwnedTupleGo_enum (s := { s with heap := h2, toks := tk + 1 }) ho fun h3 he3 sb => ?_⟩
    have hT3 : h3.get? s.heap.objs.size = some { cls := .type "tuple", data := .seq #[.int i tk, x] } := (sb.2 _ (Nat.ne_of_gt l1)).trans hT
    have sm3 : ∀ b ob, b ∉ [e, it] → s.heap.get? b = some ob → h3.get? b = some ob := fun b ob hb q => by
      have n1 : b ≠ e := fun z => hb (by simp [z])
      have n2 : b ≠ it := fun z => hb (by simp [z])
      exact (sb.2 b n1).trans (hk b ob n1 n2 q)
    have nw : ObjOk X.prog X.w (upd H s.heap.objs.size (.tup [.int (i : Nat), xs[i]])) h3 s.heap.objs.size (.tup [.int (i : Nat), xs[i]]) :=
      ⟨by show 2 ≤ sizeLine; decide, [.int i tk, x], .cons ⟨_, rfl⟩ (.cons ru .nil), _, hT3, rfl, _, rfl⟩
    have I3 := I.turnedNew (t' := tk + 1) (ch := [e, it]) sm3 hf (Nat.le_refl _) nw
    refine ⟨.ref s.heap.objs.size, _, I3, rfl, ⟨_, xs[i], rfl, I.hok.fresh (Nat.le_refl _), rfl, List.getElem?_eq_getElem hi⟩, ⟨⟨x, ?_⟩, hst.1.at fun o q => (sb.2 it ne.symm).trans q, ne⟩, fun b hb => ?_⟩
    · have y : ((i + 1 : Nat) : Int) = (i : Int) + 1 := by omega
      rw [y]
      exact he3
    · have lb : b < s.heap.objs.size := by
        rcases List.mem_cons.mp hb with rfl | hb
        · exact l1
        · rw [List.mem_singleton.mp hb]
          exact l2
      rw [upd_ne (Nat.ne_of_lt lb)]
      exact (hf b hb).1
  · intro X hP hw hK hc i pins s σ H E I hf st hg
    subst hP hw hK
    obtain ⟨⟨old, q1⟩, q2, ne⟩ := st
    obtain ⟨hq, hi⟩ := hg
    obtain ⟨its, rv, p, _⟩ := I.tuple hq
    have pt : s.heap.IsTuple a its.toArray := p
    obtain ⟨na, nt⟩ := apart q1 q2 pt
    obtain ⟨f0, f1, f2, f3, f4, f5⟩ := hf it (by simp)
    have hi2 : i = its.toArray.size := by rw [List.size_toArray, ← rv.length]; exact hi.symm
    subst hi2
    exact wpAny_pyNext_enum_endD (Draws.tuple (prog := X.prog) (w := X.w) (A := X.A.in1) (I.ok.hd hc) it a nt its.toArray) q1 ⟨q2, pt⟩ fun h2 eb => ⟨rfl, I.turned (t' := s.toks) (fun b o hb q => eb b o hb q) f0 f1 f3 f4 f5⟩
  · exact fun A i s Q E st h => let ⟨⟨_, q⟩, _⟩ := st; wpAny_pyIter_enum q h
def iEnumT (K : PySem.W.Frag) (ta : TA) : TI := fun σ H R => ta σ H fun vs H1 => ∃ a xs, vs = [.ref a] ∧ SqT K H1 a xs ∧ R (IteT K a xs) H1
theorem pi_enumT {X : Cx} {e : Expr} {ta : TA} {p pos tpos : Pos} {elts : List Expr} {kk : Nat} (hg : Gl X "enumerate") (hm : X.mg "enumerate" = none) (ha : PA X [e] ta) (hs : starEach [e] X.env = [(false, eval e X.env)] := by rfl) :
    PI X (.Tuple elts kk tpos) (.Call (.Name "enumerate" p) [e] [] pos) (iEnumT X.K ta) := by
  refine ⟨fun pins s σ H R I h => Call_ (ld_blt I hg hm boot_enumerate (PyProof.Rows.callWith_type1 (thn (ha.run pos pins s σ H _ I h) fun us s1 ⟨vs, H1, I1, r1, a, xs, ex, hq, q⟩ => ?_) hs rfl))⟩
  subst ex
  obtain ⟨its, rv, p', _⟩ := I1.tuple hq
  cases r1 with
  | cons r rr =>
    cases rr
    cases r
    refine ecall1 (begins_tuple a its.toArray) p' fun h2 he ht hk => wpAny_pyIter_enum he ?_
    refine ⟨s1.heap.objs.size + 1, [s1.heap.objs.size + 1, s1.heap.objs.size], _, _, H1, rfl, I1.kept (t' := s1.toks) hk, tu_enumT a (s1.heap.objs.size + 1) s1.heap.objs.size xs, ⟨⟨.none, he⟩, ⟨_, ht, rfl, rfl⟩, Nat.succ_ne_self _⟩, fun b hb => ?_, q⟩
    have lb : s1.heap.objs.size ≤ b := by
      rcases List.mem_cons.mp hb with rfl | hb
      · exact Nat.le_succ _
      · rw [List.mem_singleton.mp hb]
        exact Nat.le_refl _
    exact I1.fpOk lb (I1.hok.fresh lb)
theorem walk_enumT {K : PySem.W.Frag} {a : Addr} {xs : List V} : Walk (IteT K a xs) xs.length (fun H => SqT K H a xs) (YPair (fun i => some (.int (i : Nat))) (fun i => xs[i]?)) :=
  ⟨fun i _ hi q => ⟨q, hi⟩, fun _ q => ⟨q, rfl⟩, fun i H v H' _ q ⟨T, x, h1, h2, h3, h4⟩ => ⟨T, .int (i : Nat), x, h1, h2, h3, rfl, h4⟩⟩
end K2

namespace K2
open PySem PySem.Spec PyProof.Rows L2
/-- three comparisons in a row -/
def tChain3 (r1 r2 r3 : R2) (ta tb tc td : TE) : TE := fun σ H Q => ta σ H fun x H1 => tb σ H1 fun y H2 => r1 x y H2 fun z H3 => ∃ k, z = .bl k ∧
  (if k = true then tc σ H3 fun y2 H4 => r2 y y2 H4 fun z2 H5 => ∃ k2, z2 = .bl k2 ∧ (if k2 = true then td σ H5 fun y3 H6 => r3 y2 y3 H6 Q else Q (.bl false) H5) else Q (.bl false) H3)
section
variable {X : Cx} {a b c d : Expr} {ta tb tc td : TE} {pos : Pos}
theorem pe_chain3 {o1 o2 o3 : CmpOp} {r1 r2 r3 : R2} (h1 : OpR X (compareOp o1) r1) (h2 : OpR X (compareOp o2) r2) (h3 : OpR X (compareOp o3) r3) (ha : PE X a ta) (hb : PE X b tb) (hc : PE X c tc) (hd : PE X d td)
    (hm : lastMarks [o1, o2, o3] [b, c, d] = false := by with_unfolding_all rfl) : PE X (.Compare a [o1, o2, o3] [b, c, d] pos) (tChain3 r1 r2 r3 ta tb tc td) := by
  refine ⟨fun pins s σ H Q I h => Compare_chain (thn (ha.run pins s σ H _ I h) fun u1 s1 ⟨x1, H1, I1, q1, g1⟩ => chain_link (thn (hb.run pins s1 σ H1 _ I1 g1) fun u2 s2 ⟨x2, H2, I2, q2, g2⟩ =>
    thn (h1 pins s2 σ H2 x1 x2 u1 u2 _ I2 q1 q2 g2) fun u3 s3 ⟨x3, H3, I3, q3, k, e, g3⟩ => ?_)) hm⟩
  subst e
  cases q3
  refine wpAny_truthy_bool ?_
  cases k with
  | false => exact ite_ff ⟨.bl false, H3, I3, rfl, g3⟩
  | true =>
    refine ite_tt (chain_link (thn (hc.run pins s3 σ H3 _ I3 g3) fun u4 s4 ⟨x4, H4, I4, q4, g4⟩ => thn (h2 pins s4 σ H4 x2 x4 u2 u4 _ I4 q2 q4 g4) fun u5 s5 ⟨x5, H5, I5, q5, k2, e2, g5⟩ => ?_))
    subst e2
    cases q5
    refine wpAny_truthy_bool ?_
    cases k2 with
    | false => exact ite_ff ⟨.bl false, H5, I5, rfl, g5⟩
    | true => exact ite_tt (chain_last (thn (hd.run pins s5 σ H5 _ I5 g5) fun u6 s6 ⟨x6, H6, I6, q6, g6⟩ => h3 pins s6 σ H6 x4 x6 u4 u6 Q I6 q4 q6 g6))
end
/-- what stands at the right of an own == -/
inductive Oth (K : PySem.W.Frag) (H : Hp) (b : Addr) : Value → Prop where
  | ins {C dx : Addr} {fs : List (Str × V)} (e : H b = some (.ins C dx fs)) : Oth K H b (.ref C)
  | tup {xs : List V} (e : SqT K H b xs) : Oth K H b (.type "tuple")
def rOwnEq (K : PySem.W.Frag) (C : Addr) (sp : Sp) (E : XK) : R2 := fun x y H Q => ∃ (a dx : Addr) (fs : List (Str × V)) (b : Addr) (tb : Value), x = .ref a ∧ y = .ref b ∧ H a = some (.ins C dx fs) ∧ Oth K H b tb ∧ PySem.W.notFirst K C tb = true ∧ sp [x, y] H Q E
section
variable {X : Cx} {n : Nat} {C g : Addr} {sp : Sp} {CX : CXT} {E : XK} {fd : FuncData} {ps : List Str}
theorem op_owneq (hs : PySem.W.findIn X.K (.ref C) "__eq__" = some (some (.ref g))) (hf : PySem.W.isFn X.K (.ref g) = true) (F : FnOk X.prog X.w X.K X.mg X.base CX n g fd ps sp) (hb : Binds X.K fd ps [])
    (hr : Room n X.A) (hx : Passes CX X E) : OpR X (compareOp .Eq) (rOwnEq X.K C sp E) := by
  intro pins s σ H x y v u Q I rx ry h
  obtain ⟨a, dx, fs, b, tb, rfl, rfl, ha, ho, hn, q⟩ := h
  obtain rfl : v = Value.ref a := rx
  obtain rfl : u = Value.ref b := ry
  obtain ⟨_, J, _⟩ := ins_get I.hok ha
  obtain ⟨_, J, _⟩ := J.look
  obtain ⟨_, hF⟩ := I.fr
  have lk : PySem.W.Looks (model X.prog X.w) s.heap (typeOf (.ref b)) tb := by
    cases ho with
    | ins e =>
      obtain ⟨_, J2, _⟩ := ins_get I.hok e
      obtain ⟨_, J2, _⟩ := J2.look
      exact J2.type
    | tup e =>
      obtain ⟨_, _, ⟨o, e1, e2, _⟩, _⟩ := I.tuple e
      exact e2 ▸ (PySem.W.Looks.ld e1).andThen .now
  refine PySem.W.cmp_K (op := .Eq) (tb := tb) hr.units0 hF I.ok.mod.kin J lk hn hs hf ?_
  have F2 : FnR X.prog X.w X.K X.mg X.base CX n g sp := (FnOk.raw F hb .nil).imp fun vs H Q E h => by
    rw [List.append_nil]
    exact h
  refine wpAny_mono (wpAny_call (run_fnR (us := [.ref a, .ref b]) (vs := [.ref a, .ref b]) F2 hr hx I (.cons rfl (.cons rfl .nil)) q)) (fun w s' z => ?_) fun _ _ x => x
  obtain ⟨z', H', I', rz, qz⟩ := z
  exact SlX.cmpback rz ⟨z', H', I', rz, qz⟩
end
end K2

namespace K2
open PySem L2
structure GDs (d : D) : Prop where
  nm : d.n ∈ NMS
  l0 : -1000000 ≤ d.l
  lh : d.l ≤ d.h
  h1 : d.h ≤ 1000000
  s0 : 1 ≤ d.s
  s1 : d.s ≤ 1000000
structure GTs (t : T) : Prop where
  nm : t.n ∈ NMS
  k : t.k ∈ KS
structure GSh (ds : List D) (ts : List T) : Prop where
  d0 : 1 ≤ ds.length ∧ ds.length ≤ 6
  t0 : 1 ≤ ts.length ∧ ts.length ≤ 16
  d : ∀ d ∈ ds, GDs d
  t : ∀ t ∈ ts, GTs t
  nd : (ds.map (·.n) ++ ts.map (·.n)).Nodup
structure Ct5 (mg : Str → Option Value) : Prop where
  md : ∃ v, mg "MOST_DIMS" = some v ∧ RelV (.int 6) v
  ma : ∃ v, mg "MOST_ATTRS" = some v ∧ RelV (.int 16) v
  fu : ∃ v, mg "FURTHEST" = some v ∧ RelV (.int 1000000) v
  st : ∃ v, mg "LONGEST_STEP" = some v ∧ RelV (.int 1000000) v
theorem flat_strs (ls : List Str) : (ls.map V.str).all flatV = true := by
  rw [List.all_eq_true]
  intro x hx
  obtain ⟨i, _, rfl⟩ := List.mem_map.mp hx
  rfl
theorem inV_str (o : Str) (ls : List Str) : inV (.str o) (ls.map V.str) = decide (o ∈ ls) := by
  unfold inV
  rw [Bool.eq_iff_iff, List.any_eq_true, decide_eq_true_eq]
  constructor
  · rintro ⟨x, hx, e⟩
    obtain ⟨i, hi, rfl⟩ := List.mem_map.mp hx
    have e2 : (i == o) = true ∨ (o == i) = true := by first | exact .inl e | exact .inr e
    rcases e2 with z | z
    · rw [← eq_of_beq z]; exact hi
    · rw [eq_of_beq z]; exact hi
  · intro h
    exact ⟨.str o, List.mem_map.mpr ⟨o, h, rfl⟩, by show (o == o) = true; exact beq_self_eq_true o⟩
section
variable {P : Program} {w : World} {K : PySem.W.Frag} {mg : Str → Option Value} {base : Heap}
def spIsDim : Sp := fun vs H Q _ => ∃ (a : Addr) (d : D), vs = [.ref a] ∧ H a = some (.tup d.v) ∧ GDs d ∧ Q (.bl true) H
theorem scIsDim : FnScope ["dim", "name", "low", "high", "step"] ["dim"] (defScope sIsDim) := ⟨rfl, rfl, rfl, by decide +kernel, rfl, by decide +kernel, by decide +kernel⟩
theorem ok_isDim {f fS : Addr} {fd fdS : FuncData} (F : Fun K "is_dim" "is_dim" sIsDim f fd) (N : Ct5 mg) (GS : FnOk P w K mg base CX0 1 fS fdS ["text"] spSimple) (kS : PySem.W.keepIn K (.ref fS) = true) (bS : Binds K fdS ["text"] []) (gS : mg "is_simple_name" = some (.ref fS)) :
    FnOk P w K mg base CX0 2 f fd ["dim"] spIsDim := by
  refine F.ok scIsDim (fun vs H Q E h => ?_) (fun cdv A outer s H vs Q E hr h => ?_)
  · obtain ⟨a, d, rfl, _⟩ := h
    rfl
  · obtain ⟨a, d, rfl, ha, g, q⟩ := h
    obtain ⟨u1, m1, r1⟩ := N.fu
    obtain ⟨u2, m2, r2⟩ := N.st
    refine ⟨_, pss_cons (ps_asg (pv 0) (pg_tup (by rfl) (pgs_cons (pg_name (i := 1) scIsDim.nd rfl (.inl rfl)) (pgs_cons (pg_name (i := 2) scIsDim.nd rfl (.inl rfl)) (pgs_cons (pg_name (i := 3) scIsDim.nd rfl (.inl rfl)) (pgs_cons (pg_name (i := 4) scIsDim.nd rfl (.inl rfl)) pgs_nil))))))
      (pss_one (ps_ret (pe_and (pe_call GS hr (by rfl) gS kS bS .nil pass0 (pa_cons (pv 1) pa_nil)) (pe_and (pe_chain3 op_le op_le op_le (pe_un un_neg (pe_glob (by rfl) m1 r1)) (pv 2) (pv 3) (pe_glob (by rfl) m1 r1)) (pe_one (pe_chain op_le op_le pe_int (pv 4) (pe_glob (by rfl) m2 r2))))))), ?_⟩
    refine ⟨_, rfl, a, d.v, rfl, SqT.of ha, rfl, _, _, rfl, _, _, rfl, _, _, rfl, _, _, rfl, rfl, ?_⟩
    refine ⟨_, rfl, d.n, rfl, g.nm, _, rfl, iteT ⟨1000000, rfl, _, rfl, -1000000, d.l, rfl, rfl, _, rfl, iteB (decide_eq_true g.l0) ⟨_, rfl, d.l, d.h, rfl, rfl, _, rfl, iteB (decide_eq_true g.lh) ⟨d.h, 1000000, rfl, rfl, _, rfl, iteB (decide_eq_true g.h1) ⟨_, rfl, 1, d.s, rfl, rfl, _, rfl, iteB (decide_eq_true g.s0) ⟨d.s, 1000000, rfl, rfl, ?_⟩⟩⟩⟩⟩⟩
    show Q (.bl (decide (d.s ≤ 1000000))) H
    rw [decide_eq_true g.s1]
    exact q
def spIsAttr : Sp := fun vs H Q _ => ∃ (a : Addr) (d : T), vs = [.ref a] ∧ H a = some (.tup d.v) ∧ GTs d ∧ Q (.bl true) H
theorem scIsAttr : FnScope ["attr", "name", "kind"] ["attr"] (defScope sIsAttr) := ⟨rfl, rfl, rfl, by decide +kernel, rfl, by decide +kernel, by decide +kernel⟩
theorem ok_isAttr {f fS : Addr} {fd fdS : FuncData} (F : Fun K "is_attr" "is_attr" sIsAttr f fd) (Z : Ct2 K mg) (GS : FnOk P w K mg base CX0 1 fS fdS ["text"] spSimple) (kS : PySem.W.keepIn K (.ref fS) = true) (bS : Binds K fdS ["text"] []) (gS : mg "is_simple_name" = some (.ref fS)) :
    FnOk P w K mg base CX0 2 f fd ["attr"] spIsAttr := by
  refine F.ok scIsAttr (fun vs H Q E h => ?_) (fun cdv A outer s H vs Q E hr h => ?_)
  · obtain ⟨a, d, rfl, _⟩ := h
    rfl
  · obtain ⟨a, d, rfl, ha, g, q⟩ := h
    obtain ⟨kk, mk, hk, _⟩ := Z.kinds
    refine ⟨_, pss_cons (ps_asg (pv 0) (pg_tup (by rfl) (pgs_cons (pg_name (i := 1) scIsAttr.nd rfl (.inl rfl)) (pgs_cons (pg_name (i := 2) scIsAttr.nd rfl (.inl rfl)) pgs_nil))))
      (pss_one (ps_ret (pe_and (pe_call GS hr (by rfl) gS kS bS .nil pass0 (pa_cons (pv 1) pa_nil)) (pe_one (pe_cmpR op_in_seq (pv 2) (pe_glob (v := .ref kk) (by rfl) mk rfl) (by rfl)))))), ?_⟩
    refine ⟨_, rfl, a, d.v, rfl, SqT.of ha, rfl, _, _, rfl, _, _, rfl, rfl, ?_⟩
    refine ⟨_, rfl, d.n, rfl, g.nm, _, rfl, iteT ⟨_, rfl, kk, _, rfl, .inr (hk _), rfl, flat_strs _, ?_⟩⟩
    rw [inV_str, decide_eq_true g.k]
    exact q
def spCheck (C : Addr) : Sp := fun vs H Q _ => ∃ (v : V) (ds : List D) (ts : List T), vs = [v] ∧ ShAt H C v ds ts ∧ GSh ds ts ∧ ∀ H', Same H H' → Q .non H'
theorem scCheck : FnScope ["shape", "names", "index", "dim", "attr"] ["shape"] (defScope sCheckShape) := ⟨rfl, rfl, rfl, by decide +kernel, rfl, by decide +kernel, by decide +kernel⟩
theorem ok_check {f fD fA fI C : Addr} {fd fdD fdA : FuncData} (F : Fun K "check_shape" "check_shape" sCheckShape f fd) (M : Nm mg) (N : Ct5 mg) (S : KC K C fI SHf) (GD : FnOk P w K mg base CX0 2 fD fdD ["dim"] spIsDim) (kD : PySem.W.keepIn K (.ref fD) = true) (bD : Binds K fdD ["dim"] []) (gD : mg "is_dim" = some (.ref fD))
    (GA : FnOk P w K mg base CX0 2 fA fdA ["attr"] spIsAttr) (kA : PySem.W.keepIn K (.ref fA) = true) (bA : Binds K fdA ["attr"] []) (gA : mg "is_attr" = some (.ref fA)) : FnOk P w K mg base CX0 3 f fd ["shape"] (spCheck C) := by
  refine F.ok scCheck (fun vs H Q E h => ?_) (fun cdv A outer s H vs Q E hr h => ?_)
  · obtain ⟨v, ds, ts, rfl, _⟩ := h
    rfl
  · obtain ⟨v, ds, ts, rfl, ⟨a, dx, v1, v2, rfl, ha, ⟨td, xs, rfl, htd, had⟩, ⟨ta, ys, rfl, hta, hat⟩⟩, g, q⟩ := h
    obtain ⟨u1, m1, r1⟩ := N.md
    obtain ⟨u2, m2, r2⟩ := N.ma
    refine ⟨_, pss_cons (ps_if (PW.pt (pw_or (pt_not (pt_chain op_le op_le pe_int (pe_callB call_len_seq (by rfl) M.len PySem.boot_len (pa_cons (pe_fld (pv 0) rfl) pa_nil)) (pe_glob (by rfl) m1 r1)))
          (pw_or1 (pt_not (pt_chain op_le op_le pe_int (pe_callB call_len_seq (by rfl) M.len PySem.boot_len (pa_cons (pe_fld (pv 0) rfl) pa_nil)) (pe_glob (by rfl) m2 r2)))))) pss_dead pss_nil)
      (pss_cons (ps_set (i := 1) scCheck.nd rfl (.inl rfl) (pe_lst pa_nil))
      (Evl.pss_cut (ps_for PassesOwn.never rfl (pi_enumT (by rfl) M.enumerate (pa_cons (pe_fld (pv 0) rfl) pa_nil)) (pg_tup (by rfl) (pgs_cons (pg_name (i := 2) scCheck.nd rfl (.inl rfl)) (pgs_cons (pg_name (i := 3) scCheck.nd rfl (.inl rfl)) pgs_nil)))
        (pss_cons (ps_if (PW.pt (pw_or (pt_not (pt_val (pe_call GD hr (by rfl) gD kD bD .nil pass0 (pa_cons (pv 3) pa_nil)))) (pw_or1 (pt_cmpR op_in_seq (pe_ix ix_tup (pv 3) pe_int (fun _ _ => rfl)) (pv 1) (by rfl))))) pss_dead pss_nil)
        (pss_one (ps_expr (pe_bm PySem.F.plainAttrs_list PySem.F.slot_list_append PySem.F.type_list_append mt_append (pv 1) (pa_cons (pe_ix ix_tup (pv 3) pe_int (fun _ _ => rfl)) pa_nil))))))
      (pss_one (ps_for PassesOwn.never rfl (pi_enumT (by rfl) M.enumerate (pa_cons (pe_fld (pv 0) rfl) pa_nil)) (pg_tup (by rfl) (pgs_cons (pg_name (i := 2) scCheck.nd rfl (.inl rfl)) (pgs_cons (pg_name (i := 4) scCheck.nd rfl (.inl rfl)) pgs_nil)))
        (pss_cons (ps_if (PW.pt (pw_or (pt_not (pt_val (pe_call GA hr (by rfl) gA kA bA .nil pass0 (pa_cons (pv 4) pa_nil)))) (pw_or1 (pt_cmpR op_in_seq (pe_ix ix_tup (pv 4) pe_int (fun _ _ => rfl)) (pv 1) (by rfl))))) pss_dead pss_nil)
        (pss_one (ps_expr (pe_bm PySem.F.plainAttrs_list PySem.F.slot_list_append PySem.F.type_list_append mt_append (pv 1) (pa_cons (pe_ix ix_tup (pv 4) pe_int (fun _ _ => rfl)) pa_nil))))))))), ?_⟩
    have hxl := had.1
    have hyl := hat.1
    have n1 : NoAttr K C "dims" := S.na _ (by decide +kernel)
    have n2 : NoAttr K C "attrs" := S.na _ (by decide +kernel)
    have g1 := g.d0
    have g2 := g.t0
    refine ⟨_, rfl, a, C, dx, _, .ref td, rfl, ha, S.cl, n1, rfl, td, xs, rfl, .inr (SqT.of htd), 1, (xs.length : Int), rfl, rfl, _, rfl, iteB (decide_eq_true (by omega)) ⟨_, 6, rfl, rfl, _, rfl, iteBF (by rw [decide_eq_true (by omega)]; rfl) ?_⟩⟩
    refine ⟨_, rfl, a, C, dx, _, .ref ta, rfl, ha, S.cl, n2, rfl, ta, ys, rfl, .inr (SqT.of hta), 1, (ys.length : Int), rfl, rfl, _, rfl, iteB (decide_eq_true (by omega)) ⟨_, 16, rfl, rfl, _, rfl, iteBF (by rw [decide_eq_true (by omega)]; rfl) ?_⟩⟩
    refine ⟨Nat.zero_le _, fun nl nn => ?_⟩
    have nd := List.nodup_append.mp g.nd
    refine ⟨fun σ H2 => ∃ y2 y3, σ = [some (.ref a), some (.ref nl), y2, y3, none] ∧ Same H H2 ∧ H2 nl = some (.lst ((ds.map (·.n)).map V.str)), ?_, ?_⟩
    · refine ⟨_, rfl, a, C, dx, _, .ref td, rfl, same_new nn _ _ ha, S.cl, n1, rfl, td, xs, rfl, SqT.of (same_new nn _ _ htd), ?_⟩
      refine for_it (walk_enumT (xs := xs)) (fun i σ H2 => ∃ y2 y3, σ = [some (.ref a), some (.ref nl), y2, y3, none] ∧ Same H H2 ∧ H2 nl = some (.lst (((ds.take i).map (·.n)).map V.str))) ⟨_, _, rfl, same_new nn, upd_same⟩ ?_ ?_ ?_
      · rintro i σ H2 hi ⟨y2, y3, rfl, s2, _⟩
        exact SqT.of (s2 _ _ htd)
      · rintro i x σ H2 H' hi ⟨y2, y3, rfl, s2, hn⟩ ⟨Tp, x1, x2, rfl, nT, rfl, f1, f2⟩
        rw [hxl] at hi
        obtain ⟨b, rfl, hb⟩ := had.at hi f2
        have gd := g.d _ (List.getElem_mem hi)
        have hno : ds[i].n ∉ (ds.take i).map (·.n) := fun z => by
          rw [List.map_take] at z
          obtain ⟨m, hm, e⟩ := List.mem_take_iff_getElem.mp z
          have h2 : (ds.map (·.n))[i]'(by rw [List.length_map]; exact hi) = ds[i].n := List.getElem_map _
          have := (List.getElem_inj nd.1 (h₀ := by rw [List.length_map]; omega) (h₁ := by rw [List.length_map]; exact hi)).mp (e.trans h2.symm)
          omega
        have s3 : Same H2 (upd H2 Tp (.tup [x1, .ref b])) := same_new nT
        have hb3 := s3 _ _ (s2 _ _ hb)
        have hn3 := s3 _ _ hn
        refine ⟨Tp, _, rfl, .inl (.inl upd_same), rfl, _, _, rfl, _, _, rfl, rfl, ?_⟩
        refine ⟨_, rfl, b, ds[i], rfl, hb3, gd, true, rfl, iteF ⟨_, rfl, b, _, 0, .str ds[i].n, rfl, rfl, SqT.of hb3, rfl, _, rfl, nl, _, rfl, .inl (.inl (.inl hn3)), rfl, flat_strs _, _, rfl, ?_⟩⟩
        rw [inV_str]
        refine iteBF (by rw [decide_eq_false hno]; rfl) ?_
        refine ⟨_, rfl, .inl ⟨rfl, _, .inl (.inl hn3)⟩, _, rfl, b, _, 0, .str ds[i].n, rfl, rfl, SqT.of hb3, rfl, nl, _, _, rfl, rfl, hn3, ?_, _, _, rfl, fun z o e => ?_, ?_⟩
        · rw [List.length_map, List.length_map, List.length_take]
          exact small1000 (by omega)
        · rw [upd_ne (fun y => by rw [y, nn] at e; cases e)]
          exact s3 _ _ (s2 _ _ e)
        · rw [upd_same, List.take_add_one, List.getElem?_eq_getElem hi, List.map_append, List.map_append]
          rfl
      · rintro σ H2 ⟨y2, y3, rfl, s2, hn⟩
        rw [hxl, List.take_length] at hn
        exact ⟨_, _, rfl, s2, hn⟩
    · rintro σ H2 ⟨y2, y3, rfl, s2, hn⟩
      refine ⟨_, rfl, a, C, dx, _, .ref ta, rfl, s2 _ _ ha, S.cl, n2, rfl, ta, ys, rfl, SqT.of (s2 _ _ hta), ?_⟩
      refine for_it (walk_enumT (xs := ys)) (fun i σ H2 => ∃ y2 y4, σ = [some (.ref a), some (.ref nl), y2, y3, y4] ∧ Same H H2 ∧ H2 nl = some (.lst ((ds.map (·.n) ++ (ts.take i).map (·.n)).map V.str))) ⟨_, _, rfl, s2, by rw [List.take_zero, List.map_nil, List.append_nil]; exact hn⟩ ?_ ?_ ?_
      · rintro i σ H2 hi ⟨y2, y4, rfl, s2, _⟩
        exact SqT.of (s2 _ _ hta)
      · rintro i x σ H2 H' hi ⟨y2, y4, rfl, s2, hn⟩ ⟨Tp, x1, x2, rfl, nT, rfl, f1, f2⟩
        rw [hyl] at hi
        obtain ⟨b, rfl, hb⟩ := hat.at hi f2
        have gt := g.t _ (List.getElem_mem hi)
        have hno : ts[i].n ∉ ds.map (·.n) ++ (ts.take i).map (·.n) := fun z => by
          have h2 : (ts.map (·.n))[i]'(by rw [List.length_map]; exact hi) = ts[i].n := List.getElem_map _
          rcases List.mem_append.mp z with z | z
          · exact nd.2.2 _ z _ (List.mem_map.mpr ⟨ts[i], List.getElem_mem hi, rfl⟩) rfl
          · rw [List.map_take] at z
            obtain ⟨m, hm, e⟩ := List.mem_take_iff_getElem.mp z
            have := (List.getElem_inj nd.2.1 (h₀ := by rw [List.length_map]; omega) (h₁ := by rw [List.length_map]; exact hi)).mp (e.trans h2.symm)
            omega
        have s3 : Same H2 (upd H2 Tp (.tup [x1, .ref b])) := same_new nT
        have hb3 := s3 _ _ (s2 _ _ hb)
        have hn3 := s3 _ _ hn
        refine ⟨Tp, _, rfl, .inl (.inl upd_same), rfl, _, _, rfl, _, _, rfl, rfl, ?_⟩
        refine ⟨_, rfl, b, ts[i], rfl, hb3, gt, true, rfl, iteF ⟨_, rfl, b, _, 0, .str ts[i].n, rfl, rfl, SqT.of hb3, rfl, _, rfl, nl, _, rfl, .inl (.inl (.inl hn3)), rfl, flat_strs _, _, rfl, ?_⟩⟩
        rw [inV_str]
        refine iteBF (by rw [decide_eq_false hno]; rfl) ?_
        refine ⟨_, rfl, .inl ⟨rfl, _, .inl (.inl hn3)⟩, _, rfl, b, _, 0, .str ts[i].n, rfl, rfl, SqT.of hb3, rfl, nl, _, _, rfl, rfl, hn3, ?_, _, _, rfl, fun z o e => ?_, ?_⟩
        · rw [List.length_map, List.length_append, List.length_map, List.length_map, List.length_take]
          exact small1000 (by omega)
        · rw [upd_ne (fun y => by rw [y, nn] at e; cases e)]
          exact s3 _ _ (s2 _ _ e)
        · rw [upd_same, List.take_add_one, List.getElem?_eq_getElem hi, List.map_append (l₁ := ts.take i), ← List.append_assoc]
          simp only [List.map_append]
          rfl
      · rintro σ H2 ⟨y2, y4, rfl, s2, hn⟩
        exact q _ s2
end
end K2

namespace K2
open PySem L2
section
variable {P : Program} {w : World} {K : PySem.W.Frag} {mg : Str → Option Value} {base : Heap}
structure RF (P : Program) (w : World) (K : PySem.W.Frag) (mg : Str → Option Value) (base : Heap) (CO : Addr) where
  (fI fN fO f4 fi : Addr)
  (dN dO d4 di : FuncData)
  T : KC K CO fI ORf
  GN : FnOk P w K mg base CX0 1 fN dN ["self", "count"] (spNO CO)
  bN : Binds K dN ["self", "count"] []
  mN : Meth K CO "next_octets" fN
  GO : FnOk P w K mg base CX0 2 fO dO ["self", "allowed"] (spOf K CO)
  bO : Binds K dO ["self", "allowed"] []
  mO : Meth K CO "next_octet_of" fO
  G4 : FnOk P w K mg base CX0 2 f4 d4 ["self"] (spN4 CO)
  b4 : Binds K d4 ["self"] []
  m4 : Meth K CO "next_four" f4
  Gi : FnOk P w K mg base CX0 3 fi di ["self", "least", "greatest"] (spN4i CO)
  bi : Binds K di ["self", "least", "greatest"] []
  mi : Meth K CO "next_four_in" fi
def spRN (CO : Addr) : Sp := fun vs H Q _ => ∃ (r lo : Addr) (os rest : List Int) (n : Nat) (z : Str), vs = [.ref r] ∧ RdAt CO H r lo os n ∧ os.drop n = wn z ++ rest ∧ z ∈ NMS ∧ ∀ H', Ex H H' r → RdAt CO H' r lo os (n + (wn z).length) → Q (.str z) H'
theorem scRN : FnScope ["reader", "first", "octets", "name"] ["reader"] (defScope sReadName) := ⟨rfl, rfl, rfl, by decide +kernel, rfl, by decide +kernel, by decide +kernel⟩
theorem ok_rn {f fD fS CO : Addr} {fd fdD fdS : FuncData} (F : Fun K "read_name" "read_name" sReadName f fd) (Z : RF P w K mg base CO) (GD : FnOk P w K mg base CX0 2 fD fdD ["octets"] spDec) (kD : PySem.W.keepIn K (.ref fD) = true) (bD : Binds K fdD ["octets"] []) (gD : mg "decode_text" = some (.ref fD))
    (GS : FnOk P w K mg base CX0 1 fS fdS ["text"] spSimple) (kS : PySem.W.keepIn K (.ref fS) = true) (bS : Binds K fdS ["text"] []) (gS : mg "is_simple_name" = some (.ref fS)) : FnOk P w K mg base CX0 3 f fd ["reader"] (spRN CO) := by
  have GN := Z.GN
  have T := Z.T
  refine F.ok scRN (fun vs H Q E h => ?_) (fun cdv A outer s H vs Q E hr h => ?_)
  · obtain ⟨r, lo, os, rest, n, z, rfl, _⟩ := h
    rfl
  · obtain ⟨r, lo, os, rest, n, z, rfl, rd, hd, hz, q⟩ := h
    have hr1 := hr.mono (j := 1) (by decide)
    refine ⟨_, pss_cons (ps_set (i := 1) scRN.nd rfl (.inl rfl) (pe_fld (pv 0) rfl))
      (pss_cons (ps_set (i := 2) scRN.nd rfl (.inl rfl) (pe_meth (pv 0) T.cl Z.mN GN hr1 Z.bN .nil pass0 (pa_cons (pe_ix ix_list (pe_meth (pv 0) T.cl Z.mN GN hr1 Z.bN .nil pass0 (pa_cons pe_int pa_nil)) pe_int (fun _ _ => rfl)) pa_nil)))
      (pss_cons (ps_try_thru0 (pss_one (ps_set (i := 3) scRN.nd rfl (.inl rfl) (pe_call GD hr (by rfl) gD kD bD .nil pass0 (pa_cons (pv 2) pa_nil)))))
      (pss_cons (ps_if (pt_not (pt_val (pe_call GS hr1 (by rfl) gS kS bS .nil pass0 (pa_cons (pv 3) pa_nil)))) pss_dead pss_nil)
      (pss_one (ps_ret (pv 3)))))), ?_⟩
    obtain ⟨dx, e⟩ := rd.i
    have hd1 : os.drop n = [(z.length : Int)] ++ (nmo z ++ rest) := hd
    refine ⟨_, rfl, r, CO, dx, _, .int (n : Int), rfl, e, T.cl, T.na _ (by decide +kernel), rfl, ?_⟩
    refine ⟨_, rfl, r, dx, _, rfl, e, rfl, _, rfl, r, dx, _, rfl, e, rfl, r, lo, os, [(z.length : Int)], nmo z ++ rest, n, rfl, rd, hd1, fun H1 p1 x1 rd1 n1 e1 => ?_⟩
    refine ⟨p1, _, 0, .int (z.length : Int), rfl, rfl, .inl (.inl e1), rfl, ?_⟩
    have hd2 := drop_add' hd1
    refine ⟨r, lo, os, nmo z, rest, n + 1, (by show [V.ref r, V.int (z.length : Int)] = [V.ref r, V.int ((nmo z).length : Int)]; rw [nmo_len]), rd1, hd2, fun H2 p2 x2 rd2 n2 e2 => ?_⟩
    refine ⟨_, rfl, p2, z, rfl, e2, hz, fun H3 s3 => ?_⟩
    refine ⟨_, rfl, z, rfl, hz, true, rfl, iteF ⟨_, rfl, q H3 ((x1.trans x2).same s3) ?_⟩⟩
    have := rd2.same s3
    rwa [show n + 1 + (nmo z).length = n + (wn z).length from by show _ = n + ((nmo z).length + 1); omega] at this
def spRDm (CO : Addr) : Sp := fun vs H Q _ => ∃ (r lo : Addr) (os rest : List Int) (n : Nat) (d : D), vs = [.ref r] ∧ RdAt CO H r lo os n ∧ os.drop n = eD d ++ rest ∧ GDs d ∧ ∀ H' t, Ex H H' r → RdAt CO H' r lo os (n + (eD d).length) → H t = none → H' t = some (.tup d.v) → Q (.ref t) H'
theorem scRDm : FnScope ["reader", "name", "low", "high"] ["reader"] (defScope sReadDim) := ⟨rfl, rfl, rfl, by decide +kernel, rfl, by decide +kernel, by decide +kernel⟩
theorem Ex.free {CO : Addr} {H H1 : Hp} {r lo : Addr} {os : List Int} {n : Nat} (x : Ex H H1 r) (rd : RdAt CO H1 r lo os n) {t : Addr} (h : H1 t = none) : H t = none := by
  cases e : H t with
  | none => rfl
  | some o =>
    have nr : t ≠ r := fun z => by
      obtain ⟨dx, e1⟩ := rd.i
      rw [z, e1] at h
      cases h
    rw [x t o e nr] at h
    cases h
theorem ok_rdm {f fM CO : Addr} {fd fdM : FuncData} (F : Fun K "read_dim" "read_dim" sReadDim f fd) (Z : RF P w K mg base CO) (Y : Ct2 K mg) (GM : FnOk P w K mg base CX0 3 fM fdM ["reader"] (spRN CO)) (kM : PySem.W.keepIn K (.ref fM) = true) (bM : Binds K fdM ["reader"] []) (gM : mg "read_name" = some (.ref fM)) : FnOk P w K mg base CX0 4 f fd ["reader"] (spRDm CO) := by
  have G4 := Z.G4
  have T := Z.T
  refine F.ok scRDm (fun vs H Q E h => ?_) (fun cdv A outer s H vs Q E hr h => ?_)
  · obtain ⟨r, lo, os, rest, n, d, rfl, _⟩ := h
    rfl
  · obtain ⟨r, lo, os, rest, n, d, rfl, rd, hd, g, q⟩ := h
    have hr2 := hr.mono (j := 2) (by decide)
    obtain ⟨lv, ml, rl⟩ := Y.lift
    refine ⟨_, pss_cons (ps_set (i := 1) scRDm.nd rfl (.inl rfl) (pe_call GM hr (by rfl) gM kM bM .nil pass0 (pa_cons (pv 0) pa_nil)))
      (pss_cons (ps_set (i := 2) scRDm.nd rfl (.inl rfl) (pe_op op_sub (pe_meth0 (pv 0) T.cl Z.m4 G4 hr2 Z.b4 .nil pass0) (pe_glob (by rfl) ml rl)))
      (pss_cons (ps_set (i := 3) scRDm.nd rfl (.inl rfl) (pe_op op_sub (pe_meth0 (pv 0) T.cl Z.m4 G4 hr2 Z.b4 .nil pass0) (pe_glob (by rfl) ml rl)))
      (pss_one (ps_ret (pe_tup (pa_cons (pv 1) (pa_cons (pv 2) (pa_cons (pv 3) (pa_cons (pe_meth0 (pv 0) T.cl Z.m4 G4 hr2 Z.b4 .nil pass0) pa_nil))))))))), ?_⟩
    have hd1 : os.drop n = wn d.n ++ (w4 (d.l + 2147483648) ++ (w4 (d.h + 2147483648) ++ (w4 d.s ++ rest))) := by
      rw [hd]
      unfold eD
      simp only [List.append_assoc]
    have l0 := g.l0
    have lh := g.lh
    have h1 := g.h1
    have s0 := g.s0
    have s1 := g.s1
    refine ⟨_, rfl, r, lo, os, _, n, d.n, rfl, rd, hd1, g.nm, fun H1 x1 rd1 => ?_⟩
    have hd2 := drop_add' hd1
    obtain ⟨dx1, e1⟩ := rd1.i
    refine ⟨_, rfl, r, dx1, _, rfl, e1, rfl, r, lo, os, _, d.l + 2147483648, _, rfl, rd1, hd2, by omega, by omega, fun H2 x2 rd2 => ⟨_, _, rfl, rfl, ?_⟩⟩
    have hd3 := drop_add' hd2
    obtain ⟨dx2, e2⟩ := rd2.i
    refine ⟨_, rfl, r, dx2, _, rfl, e2, rfl, r, lo, os, _, d.h + 2147483648, _, rfl, rd2, hd3, by omega, by omega, fun H3 x3 rd3 => ⟨_, _, rfl, rfl, ?_⟩⟩
    have hd4 := drop_add' hd3
    obtain ⟨dx3, e3⟩ := rd3.i
    refine ⟨_, rfl, _, rfl, _, rfl, _, rfl, r, dx3, _, rfl, e3, rfl, r, lo, os, _, d.s, _, rfl, rd3, hd4, by omega, by omega, fun H4 x4 rd4 => ⟨(by show 4 ≤ sizeLine; decide), fun t nt => ?_⟩⟩
    have x := x1.trans (x2.trans (x3.trans x4))
    refine q _ t (x.same (same_new nt)) ?_ (x.free rd4 nt) ?_
    · rw [show n + (eD d).length = n + (wn d.n).length + 4 + 4 + 4 from by
        unfold eD
        rw [List.length_append, List.length_append, List.length_append]
        show n + ((wn d.n).length + 4 + 4 + 4) = _
        omega]
      exact rd4.same (same_new nt)
    · rw [upd_same]
      show some (HO.tup [V.str d.n, V.int (d.l + 2147483648 - 2147483648), V.int (d.h + 2147483648 - 2147483648), V.int d.s]) = some (HO.tup [V.str d.n, V.int d.l, V.int d.h, V.int d.s])
      rw [show d.l + 2147483648 - 2147483648 = d.l from by omega, show d.h + 2147483648 - 2147483648 = d.h from by omega]
def spRA (CO : Addr) : Sp := fun vs H Q _ => ∃ (r lo : Addr) (os rest : List Int) (n : Nat) (d : T), vs = [.ref r] ∧ RdAt CO H r lo os n ∧ os.drop n = eT d ++ rest ∧ GTs d ∧ ∀ H' t, Ex H H' r → RdAt CO H' r lo os (n + (eT d).length) → H t = none → H' t = some (.tup d.v) → Q (.ref t) H'
theorem scRA : FnScope ["reader", "name"] ["reader"] (defScope sReadAttr) := ⟨rfl, rfl, rfl, by decide +kernel, rfl, by decide +kernel, by decide +kernel⟩
theorem ok_ra {f fM CO : Addr} {fd fdM : FuncData} (F : Fun K "read_attr" "read_attr" sReadAttr f fd) (Z : RF P w K mg base CO) (Y : Ct2 K mg) (GM : FnOk P w K mg base CX0 3 fM fdM ["reader"] (spRN CO)) (kM : PySem.W.keepIn K (.ref fM) = true) (bM : Binds K fdM ["reader"] []) (gM : mg "read_name" = some (.ref fM)) : FnOk P w K mg base CX0 4 f fd ["reader"] (spRA CO) := by
  have GO := Z.GO
  have T := Z.T
  refine F.ok scRA (fun vs H Q E h => ?_) (fun cdv A outer s H vs Q E hr h => ?_)
  · obtain ⟨r, lo, os, rest, n, d, rfl, _⟩ := h
    rfl
  · obtain ⟨r, lo, os, rest, n, d, rfl, rd, hd, g, q⟩ := h
    have hr2 := hr.mono (j := 2) (by decide)
    obtain ⟨kk, mk, hk, _⟩ := Y.kinds
    refine ⟨_, pss_cons (ps_set (i := 1) scRA.nd rfl (.inl rfl) (pe_call GM hr (by rfl) gM kM bM .nil pass0 (pa_cons (pv 0) pa_nil)))
      (pss_one (ps_ret (pe_tup (pa_cons (pv 1) (pa_cons (pe_ix ix_tup (pe_glob (v := .ref kk) (by rfl) mk rfl) (pe_meth (pv 0) T.cl Z.mO GO hr2 Z.bO .nil pass0 (pa_cons (pe_tup (pa_cons pe_int (pa_cons pe_int (pa_cons pe_int pa_nil)))) pa_nil)) (fun _ _ => rfl)) pa_nil))))), ?_⟩
    have hd1 : os.drop n = wn d.n ++ (kix d.k :: rest) := by
      rw [hd]
      unfold eT
      simp only [List.append_assoc]
      rfl
    obtain ⟨j, j1, j2, j3⟩ := kix_at g.k
    refine ⟨_, rfl, r, lo, os, _, n, d.n, rfl, rd, hd1, g.nm, fun H1 x1 rd1 => ?_⟩
    have hd2 := drop_add' hd1
    obtain ⟨dx1, e1⟩ := rd1.i
    refine ⟨_, rfl, _, rfl, r, dx1, _, rfl, e1, rfl, (by show 3 ≤ sizeLine; decide), fun a na => ?_⟩
    have nar : a ≠ r := fun z => by rw [z, e1] at na; cases na
    have hjl : j < 3 := by
      have := (List.getElem?_eq_some_iff.mp j1).1
      exact this
    refine ⟨r, lo, a, os, rest, [0, 1, 2], kix d.k, _, rfl, rd1.same (same_new na), hd2, fun H2 x2 => SqT.of (x2 _ _ upd_same nar), ?_, fun H2 x2 rd2 => ?_⟩
    · rw [j3]
      match j, hjl with
      | 0, _ => exact List.mem_cons_self
      | 1, _ => exact List.mem_cons_of_mem _ List.mem_cons_self
      | 2, _ => exact List.mem_cons_of_mem _ (List.mem_cons_of_mem _ List.mem_cons_self)
    refine ⟨kk, _, _, .str d.k, rfl, rfl, hk _, by rw [j3]; exact atI_nat (by rw [List.getElem?_map, j1]; rfl), (by show 2 ≤ sizeLine; decide), fun t nt => ?_⟩
    have x : Ex H H2 r := x1.trans (Ex.trans (fun a o e _ => same_new (o := .tup [.int 0, .int 1, .int 2]) na a o e) x2)
    refine q _ t (x.same (same_new nt)) ?_ (x.free rd2 nt) (by rw [upd_same]; rfl)
    rw [show n + (eT d).length = n + (wn d.n).length + 1 from by
      unfold eT
      rw [List.length_append]
      show n + ((wn d.n).length + 1) = _
      omega]
    exact rd2.same (same_new nt)
end
end K2

namespace K2
open PySem L2
theorem fm_split {α : Type} (f : α → List Int) {l : List α} {i : Nat} (h : i < l.length) : l.flatMap f = (l.take i).flatMap f ++ (f l[i] ++ (l.drop (i + 1)).flatMap f) := by
  conv => lhs; rw [← List.take_append_drop i l, List.drop_eq_getElem_cons h]
  rw [List.flatMap_append, List.flatMap_cons]
/-- where the i-th begins -/
theorem at_i {α : Type} {f : α → List Int} {l : List α} {os rest : List Int} {n i : Nat} (hd : os.drop n = l.flatMap f ++ rest) (h : i < l.length) : os.drop (n + ((l.take i).flatMap f).length) = f l[i] ++ ((l.drop (i + 1)).flatMap f ++ rest) := by
  refine drop_add' ?_
  rw [hd, fm_split f h]
  simp only [List.append_assoc]
theorem len_i {α : Type} (f : α → List Int) {l : List α} {i n : Nat} (h : i < l.length) : n + ((l.take i).flatMap f).length + (f l[i]).length = n + ((l.take (i + 1)).flatMap f).length := by
  rw [fm_succ f h, List.length_append]
  omega
theorem RowAt.ex {CO : Addr} {H H1 : Hp} {r lo : Addr} {os : List Int} {n : Nat} {t : List V} {x : V} (h : RowAt H t x) (e : Ex H H1 r) (rd : RdAt CO H r lo os n) : RowAt H1 t x := by
  obtain ⟨a, e1, e2⟩ := h
  obtain ⟨dx, e3⟩ := rd.i
  exact ⟨a, e1, e _ _ e2 (ne_of e2 e3 (by intro z; cases z))⟩
section
variable {P : Program} {w : World} {K : PySem.W.Frag} {mg : Str → Option Value} {base : Heap}
def spShI (C : Addr) : Sp := fun vs H Q _ => ∃ (x dx : Addr) (u v : V), vs = [.ref x, u, v] ∧ H x = some (.ins C dx []) ∧ ∀ H', Ex H H' x → H' x = some (.ins C dx [("dims", u), ("attrs", v)]) → Q .non H'
theorem scShI : FnScope ["self", "dims", "attrs"] ["self", "dims", "attrs"] (defScope sShInit) := ⟨rfl, rfl, rfl, by decide +kernel, rfl, by decide +kernel, by decide +kernel⟩
theorem ok_shI {f C : Addr} {fd : FuncData} (F : Fun K "__init__" "Shape.__init__" sShInit f fd) (S : KC K C f SHf) : FnOk P w K mg base CX0 1 f fd ["self", "dims", "attrs"] (spShI C) := by
  refine F.ok scShI (fun vs H Q E h => ?_) (fun cdv A outer s H vs Q E hr h => ?_)
  · obtain ⟨x, dx, u, v, rfl, _⟩ := h
    rfl
  · obtain ⟨x, dx, u, v, rfl, hx, q⟩ := h
    refine ⟨_, pss_cons (ps_fld (pv 0) (pv 1) rfl) (pss_one (ps_fld (pv 0) (pv 2) rfl)), ?_⟩
    refine ⟨_, rfl, _, rfl, x, C, dx, [], rfl, hx, S.cl, S.na _ (by decide +kernel), (by decide), ?_⟩
    exact ⟨_, rfl, _, rfl, x, C, dx, [("dims", u)], rfl, upd_same, S.cl, S.na _ (by decide +kernel), (by show 1 < 1000; decide), q _ (fun a o e n => by rw [upd_ne n, upd_ne n]; exact e) upd_same⟩
def spRS (CO C : Addr) : Sp := fun vs H Q _ => ∃ (r lo : Addr) (os rest : List Int) (n : Nat) (ds : List D) (ts : List T), vs = [.ref r] ∧ RdAt CO H r lo os n ∧ os.drop n = eSh ds ts ++ rest ∧ GSh ds ts ∧
  ∀ H' v, Ex H H' r → RdAt CO H' r lo os (n + (eSh ds ts).length) → ShAt H' C v ds ts → Q v H'
theorem scRS : FnScope ["reader", "first", "dims", "attrs", "shape", "_"] ["reader"] (defScope sReadShape) := ⟨rfl, rfl, rfl, by decide +kernel, rfl, by decide +kernel, by decide +kernel⟩
theorem ok_rs {f fI fM fA fK CO C : Addr} {fd fdI fdM fdA fdK : FuncData} (F : Fun K "read_shape" "read_shape" sReadShape f fd) (M : Nm mg) (Z : RF P w K mg base CO) (S : KC K C fI SHf) (GI : FnOk P w K mg base CX0 1 fI fdI ["self", "dims", "attrs"] (spShI C)) (bI : Binds K fdI ["self", "dims", "attrs"] []) (gC : mg "Shape" = some (.ref C))
    (GM : FnOk P w K mg base CX0 4 fM fdM ["reader"] (spRDm CO)) (kM : PySem.W.keepIn K (.ref fM) = true) (bM : Binds K fdM ["reader"] []) (gM : mg "read_dim" = some (.ref fM))
    (GA : FnOk P w K mg base CX0 4 fA fdA ["reader"] (spRA CO)) (kA : PySem.W.keepIn K (.ref fA) = true) (bA : Binds K fdA ["reader"] []) (gA : mg "read_attr" = some (.ref fA))
    (GK : FnOk P w K mg base CX0 3 fK fdK ["shape"] (spCheck C)) (kK : PySem.W.keepIn K (.ref fK) = true) (bK : Binds K fdK ["shape"] []) (gK : mg "check_shape" = some (.ref fK)) : FnOk P w K mg base CX0 5 f fd ["reader"] (spRS CO C) := by
  have GN := Z.GN
  have T := Z.T
  refine F.ok scRS (fun vs H Q E h => ?_) (fun cdv A outer s H vs Q E hr h => ?_)
  · obtain ⟨r, lo, os, rest, n, ds, ts, rfl, _⟩ := h
    rfl
  · obtain ⟨r, lo, os, rest, n, ds, ts, rfl, rd, hd, g, q⟩ := h
    have hr1 := hr.mono (j := 1) (by decide)
    have hr2 := hr.mono (j := 2) (by decide)
    have hr3 := hr.mono (j := 3) (by decide)
    refine ⟨_, pss_cons (ps_set (i := 1) scRS.nd rfl (.inl rfl) (pe_fld (pv 0) rfl))
      (Evl.pss_cut (ps_setLc (i := 2) (own := [("_", 5)]) (g := gName 5) (tt := tYes) rfl scRS.nd rfl rfl (sw_true rfl rfl rfl (by decide +kernel)) (pi_range1 (by rfl) M.range (pa_cons (pe_ix ix_list (pe_meth (pv 0) T.cl Z.mN GN hr1 Z.bN .nil pass0 (pa_cons pe_int pa_nil)) pe_int (fun _ _ => rfl)) pa_nil))
          (blkOk_by (N := ["reader", "first", "dims", "attrs", "shape", "_"]) (sc := defScope sReadShape) (by decide +kernel)) (fun _ _ _ _ _ => pg_name (i := 5) scRS.nd rfl (Or.inl rfl)) (fun _ _ _ _ _ => pts_nil) (fun _ _ _ _ _ => pe_call GM hr (by rfl) gM kM bM .nil pass0 (pa_cons (pv 0) pa_nil)))
      (Evl.pss_cut (ps_setLc (i := 3) (own := [("_", 5)]) (g := gName 5) (tt := tYes) rfl scRS.nd rfl rfl (sw_true rfl rfl rfl (by decide +kernel)) (pi_range1 (by rfl) M.range (pa_cons (pe_ix ix_list (pe_meth (pv 0) T.cl Z.mN GN hr1 Z.bN .nil pass0 (pa_cons pe_int pa_nil)) pe_int (fun _ _ => rfl)) pa_nil))
          (blkOk_by (N := ["reader", "first", "dims", "attrs", "shape", "_"]) (sc := defScope sReadShape) (by decide +kernel)) (fun _ _ _ _ _ => pg_name (i := 5) scRS.nd rfl (Or.inl rfl)) (fun _ _ _ _ _ => pts_nil) (fun _ _ _ _ _ => pe_call GA hr (by rfl) gA kA bA .nil pass0 (pa_cons (pv 0) pa_nil)))
      (pss_cons (ps_set (i := 4) scRS.nd rfl (.inl rfl) (pe_make S.mkC GI hr2 (by rfl) gC bI .nil pass0 (pa_cons (pe_callTy call_tuple_of (by rfl) M.tuple (by decide +kernel) (pa_cons (pv 2) pa_nil)) (pa_cons (pe_callTy call_tuple_of (by rfl) M.tuple (by decide +kernel) (pa_cons (pv 3) pa_nil)) pa_nil))))
      (pss_cons (ps_try_thru0 (pss_one (ps_expr (pe_call GK hr3 (by rfl) gK kK bK .nil pass0 (pa_cons (pv 4) pa_nil)))))
      (pss_one (ps_ret (pv 4))))))), ?_⟩
    obtain ⟨dx, e⟩ := rd.i
    have g1 := g.d0
    have g2 := g.t0
    have hd1 : os.drop n = [(ds.length : Int)] ++ (ds.flatMap eD ++ ([(ts.length : Int)] ++ (ts.flatMap eT ++ rest))) := by
      rw [hd]
      unfold eSh
      simp only [List.append_assoc]
    have hd2 := drop_add' hd1
    have hd3 := drop_add' hd2
    have hd4 := drop_add' hd3
    have hdA : os.drop (n + [(ds.length : Int)].length + (ds.flatMap eD).length) = [(ts.length : Int)] ++ (ts.flatMap eT ++ rest) := hd3
    refine ⟨_, rfl, r, CO, dx, _, .int (n : Int), rfl, e, T.cl, T.na _ (by decide +kernel), rfl, ?_⟩
    refine ⟨fun σ H2 => ∃ p xs, σ = [some (.ref r), some (.int (n : Int)), some (.ref p), none, none, none] ∧ Ex H H2 r ∧ RdAt CO H2 r lo os (n + [(ds.length : Int)].length + (ds.flatMap eD).length) ∧ p ≠ r ∧ H2 p = some (.lst xs) ∧ All (fun y d => RowAt H2 d.v y) xs ds, ?_, ?_⟩
    · refine ⟨_, rfl, r, dx, _, rfl, e, rfl, r, lo, os, [(ds.length : Int)], _, n, rfl, rd, hd1, fun H1 p1 x1 rd1 n1 e1 => ?_⟩
      refine ⟨p1, _, 0, .int (ds.length : Int), rfl, rfl, .inl (.inl e1), rfl, ?_⟩
      refine ⟨(ds.length : Int), rfl, by omega, by omega, fun D nD => ?_⟩
      have nDr : D ≠ r := fun z => by obtain ⟨dx1, z1⟩ := rd1.i; rw [z, z1] at nD; cases nD
      have nDH : H D = none := x1.free rd1 nD
      refine lc_range (lo := 0) (n := (ds.length : Int).toNat) (fun i H2 => Ex H H2 r ∧ RdAt CO H2 r lo os (n + [(ds.length : Int)].length + ((ds.take i).flatMap eD).length) ∧ ∃ xs, H2 D = some (.lst xs) ∧ All (fun y d => RowAt H2 d.v y) xs (ds.take i)) ?_ ?_ ?_
      · exact ⟨x1.same (same_new nD), rd1.same (same_new nD), [], upd_same, All.nil⟩
      · rintro i H2 hi ⟨x2, rd2, xs, eD2, al⟩
        have hi2 : i < ds.length := by omega
        refine ⟨rfl, ?_⟩
        dsimp only [tYes]
        rw [if_pos rfl]
        refine ⟨_, rfl, r, lo, os, _, _, ds[i], rfl, rd2, at_i hd2 hi2, g.d _ (List.getElem_mem hi2), fun H3 t x3 rd3 nt et => ?_⟩
        rw [len_i eD hi2] at rd3
        have eD3 := x3 _ _ eD2 nDr
        have xl := al.1
        rw [List.length_take] at xl
        have ntD : t ≠ D := fun z => by rw [z, eD2] at nt; cases nt
        refine ⟨xs, eD3, small1000 (by omega), fun a o ea na => ?_, ?_, xs ++ [.ref t], upd_same, ?_⟩
        · rw [upd_ne (fun z => by rw [z, nDH] at ea; cases ea)]
          exact x3 _ _ (x2 _ _ ea na) na
        · obtain ⟨dx3, z3⟩ := rd3.i
          exact ⟨⟨dx3, by rw [upd_ne nDr.symm]; exact z3⟩, by rw [upd_ne (ne_of_none rd.o nDH)]; exact rd3.o, rd3.le⟩
        · rw [List.take_add_one, List.getElem?_eq_getElem hi2]
          refine All.push (al.imp fun y d ⟨b, b1, b2⟩ => ⟨b, b1, ?_⟩) ⟨t, rfl, by rw [upd_ne ntD]; exact et⟩
          obtain ⟨dx2, z2⟩ := rd2.i
          rw [upd_ne (ne_of b2 eD2 (by intro z; cases z))]
          exact x3 _ _ b2 (ne_of b2 z2 (by intro z; cases z))
      · rintro H2 ⟨x2, rd2, xs, eD2, al⟩
        rw [show (ds.length : Int).toNat = ds.length from by omega, List.take_length] at rd2 al
        exact ⟨D, xs, rfl, x2, rd2, nDr, eD2, al⟩
    rintro σ H2 ⟨p, xs, rfl, x2, rd2, npr, ep, al⟩
    obtain ⟨dx2, e2⟩ := rd2.i
    refine ⟨fun σ H3 => ∃ p2 ys, σ = [some (.ref r), some (.int (n : Int)), some (.ref p), some (.ref p2), none, none] ∧ Ex H2 H3 r ∧ RdAt CO H3 r lo os (n + [(ds.length : Int)].length + (ds.flatMap eD).length + [(ts.length : Int)].length + (ts.flatMap eT).length) ∧ H3 p2 = some (.lst ys) ∧ All (fun y d => RowAt H3 d.v y) ys ts, ?_, ?_⟩
    · refine ⟨_, rfl, r, dx2, _, rfl, e2, rfl, r, lo, os, [(ts.length : Int)], _, _, rfl, rd2, hdA, fun H1 p1 x1 rd1 n1 e1 => ?_⟩
      refine ⟨p1, _, 0, .int (ts.length : Int), rfl, rfl, .inl (.inl e1), rfl, ?_⟩
      refine ⟨(ts.length : Int), rfl, by omega, by omega, fun D nD => ?_⟩
      have nDr : D ≠ r := fun z => by obtain ⟨dx1, z1⟩ := rd1.i; rw [z, z1] at nD; cases nD
      have nDH : H2 D = none := x1.free rd1 nD
      refine lc_range (lo := 0) (n := (ts.length : Int).toNat) (fun i H3 => Ex H2 H3 r ∧ RdAt CO H3 r lo os (n + [(ds.length : Int)].length + (ds.flatMap eD).length + [(ts.length : Int)].length + ((ts.take i).flatMap eT).length) ∧ ∃ xs, H3 D = some (.lst xs) ∧ All (fun y d => RowAt H3 d.v y) xs (ts.take i)) ?_ ?_ ?_
      · exact ⟨x1.same (same_new nD), rd1.same (same_new nD), [], upd_same, All.nil⟩
      · rintro i H3 hi ⟨x3, rd3, ys, eD3, al3⟩
        have hi2 : i < ts.length := by omega
        refine ⟨rfl, ?_⟩
        dsimp only [tYes]
        rw [if_pos rfl]
        refine ⟨_, rfl, r, lo, os, _, _, ts[i], rfl, rd3, at_i hd4 hi2, g.t _ (List.getElem_mem hi2), fun H4 t x4 rd4 nt et => ?_⟩
        rw [len_i eT hi2] at rd4
        have eD4 := x4 _ _ eD3 nDr
        have xl := al3.1
        rw [List.length_take] at xl
        have ntD : t ≠ D := fun z => by rw [z, eD3] at nt; cases nt
        refine ⟨ys, eD4, small1000 (by omega), fun a o ea na => ?_, ?_, ys ++ [.ref t], upd_same, ?_⟩
        · rw [upd_ne (fun z => by rw [z, nDH] at ea; cases ea)]
          exact x4 _ _ (x3 _ _ ea na) na
        · obtain ⟨dx4, z4⟩ := rd4.i
          exact ⟨⟨dx4, by rw [upd_ne nDr.symm]; exact z4⟩, by rw [upd_ne (ne_of_none rd2.o nDH)]; exact rd4.o, rd4.le⟩
        · rw [List.take_add_one, List.getElem?_eq_getElem hi2]
          refine All.push (al3.imp fun y d ⟨b, b1, b2⟩ => ⟨b, b1, ?_⟩) ⟨t, rfl, by rw [upd_ne ntD]; exact et⟩
          obtain ⟨dx3, z3⟩ := rd3.i
          rw [upd_ne (ne_of b2 eD3 (by intro z; cases z))]
          exact x4 _ _ b2 (ne_of b2 z3 (by intro z; cases z))
      · rintro H3 ⟨x3, rd3, ys, eD3, al3⟩
        rw [show (ts.length : Int).toNat = ts.length from by omega, List.take_length] at rd3 al3
        exact ⟨D, ys, rfl, x3, rd3, eD3, al3⟩
    rintro σ H3 ⟨p2, ys, rfl, x3, rd3, ep2, al3⟩
    have ep3 := x3 _ _ ep npr
    have alD : All (fun y d => RowAt H3 d.v y) xs ds := al.imp fun y d h => h.ex x3 rd2
    refine ⟨_, rfl, p, xs, rfl, .inl ⟨.inl (.inl ep3), fun t1 m1 => ?_⟩⟩
    refine ⟨_, rfl, p2, ys, rfl, .inl ⟨.inl (.inl (same_new m1 _ _ ep2)), fun t2 m2 => ?_⟩⟩
    intro a dxa na ndxa nae
    refine ⟨a, dxa, .ref t1, .ref t2, rfl, upd_same, fun H4 x4 e4 => ⟨rfl, ?_⟩⟩
    have s34 : Same H3 H4 := (same_new m1).trans ((same_new m2).trans (mk_same na ndxa x4))
    have t1e : H4 t1 = some (.tup xs) := mk_same na ndxa x4 _ _ (same_new m2 _ _ upd_same)
    have t2e : H4 t2 = some (.tup ys) := mk_same na ndxa x4 _ _ upd_same
    have sh4 : ShAt H4 C (.ref a) ds ts := ⟨a, dxa, .ref t1, .ref t2, rfl, e4, ⟨t1, xs, rfl, t1e, alD.imp fun y d h => h.same s34⟩, ⟨t2, ys, rfl, t2e, al3.imp fun y d h => h.same s34⟩⟩
    refine ⟨_, rfl, .ref a, ds, ts, rfl, sh4, g, fun H5 s5 => ?_⟩
    have el : n + (eSh ds ts).length = n + [(ds.length : Int)].length + (ds.flatMap eD).length + [(ts.length : Int)].length + (ts.flatMap eT).length := by
      unfold eSh
      rw [List.length_append, List.length_append, List.length_append]
      omega
    refine ⟨_, rfl, q H5 _ ((x2.trans x3).same (s34.trans s5)) ?_ (sh4.same s5)⟩
    rw [el]
    exact rd3.same (s34.trans s5)
end
end K2

namespace K2
open PySem L2
def DrD (d : D) : Prop := -4 ≤ d.l ∧ d.l ≤ 4 ∧ d.l ≤ d.h ∧ d.h ≤ d.l + 8 ∧ 1 ≤ d.s ∧ d.s ≤ 4
structure DrSh (ds : List D) (ts : List T) : Prop where
  i : ∃ i, 1 ≤ i ∧ i ≤ 2 ∧ ds.map (·.n) = (["x", "y"] : List Str).take i
  j : ∃ j, 1 ≤ j ∧ j ≤ 2 ∧ ts.map (·.n) = (["v", "w"] : List Str).take j
  d : ∀ d ∈ ds, DrD d
  t : ∀ t ∈ ts, t.k ∈ KS
theorem xy_at {i : Nat} (h : i < 2) : ∃ n : Str, atI [V.str "x", .str "y"] (i : Int) = some (.str n) ∧ (["x", "y"] : List Str).take (i + 1) = (["x", "y"] : List Str).take i ++ [n] := by
  match i, h with
  | 0, _ => exact ⟨"x", rfl, rfl⟩
  | 1, _ => exact ⟨"y", rfl, rfl⟩
theorem vw_at {i : Nat} (h : i < 2) : ∃ n : Str, atI [V.str "v", .str "w"] (i : Int) = some (.str n) ∧ (["v", "w"] : List Str).take (i + 1) = (["v", "w"] : List Str).take i ++ [n] := by
  match i, h with
  | 0, _ => exact ⟨"v", rfl, rfl⟩
  | 1, _ => exact ⟨"w", rfl, rfl⟩
theorem ks_at {v : Int} (h0 : 0 ≤ v) (h1 : v < 3) : ∃ n : Str, n ∈ KS ∧ atI [V.str "int", .str "flag", .str "text"] v = some (.str n) := by
  obtain ⟨k, rfl⟩ : ∃ k : Nat, v = (k : Int) := ⟨v.toNat, by omega⟩
  match k, h1 with
  | 0, _ => exact ⟨"int", by decide +kernel, rfl⟩
  | 1, _ => exact ⟨"flag", by decide +kernel, rfl⟩
  | 2, _ => exact ⟨"text", by decide +kernel, rfl⟩
  | n + 3, h => exact absurd h (by omega)
/-- the state is a list of two numbers, and the script is read the same -/
theorem Ex.sq {K : PySem.W.Frag} {H H1 : Hp} {S scr : Addr} {xs : List V} (q : ∀ H', Ex H H' S → SqL K H' scr xs) (x : Ex H H1 S) : ∀ H', Ex H1 H' S → SqL K H' scr xs := fun H' y => q H' (x.trans y)
section
variable {P : Program} {w : World} {K : PySem.W.Frag} {mg : Str → Option Value} {base : Heap}
def spLSh (K : PySem.W.Frag) (C : Addr) : Sp := fun vs H Q _ => ∃ (S scr : Addr) (ns : List Int), vs = [.ref S, .ref scr] ∧ SAt H S ∧ (∀ H', Ex H H' S → SqL K H' scr (ns.map V.int)) ∧
  ∀ H' v ds ts, Ex H H' S → SAt H' S → ShAt H' C v ds ts → DrSh ds ts → Q v H'
theorem scLSh : FnScope ["state", "script", "dims", "k", "low", "attrs"] ["state", "script"] (defScope sShape) := ⟨rfl, rfl, rfl, by decide +kernel, rfl, by decide +kernel, by decide +kernel⟩
theorem ok_lsh {f fD fI C : Addr} {fd fdD fdI : FuncData} (F : Fun K "_law_shape" "_law_shape" sShape f fd) (M : Nm mg) (S' : KC K C fI SHf) (GI : FnOk P w K mg base CX0 1 fI fdI ["self", "dims", "attrs"] (spShI C)) (bI : Binds K fdI ["self", "dims", "attrs"] []) (gC : mg "Shape" = some (.ref C))
    (GD : FnOk P w K mg base CX0 1 fD fdD ["state", "script", "size"] (spDraw K)) (kD : PySem.W.keepIn K (.ref fD) = true) (bD : Binds K fdD ["state", "script", "size"] []) (gD : mg "_law_draw" = some (.ref fD)) : FnOk P w K mg base CX0 3 f fd ["state", "script"] (spLSh K C) := by
  refine F.ok scLSh (fun vs H Q E h => ?_) (fun cdv A outer s H vs Q E hr h => ?_)
  · obtain ⟨S, scr, ns, rfl, _⟩ := h
    rfl
  · obtain ⟨S, scr, ns, rfl, hS, sq, q⟩ := h
    have hr1 := hr.mono (j := 1) (by decide)
    refine ⟨_, pss_cons (ps_set (i := 2) scLSh.nd rfl (.inl rfl) (pe_lst pa_nil))
      (Evl.pss_cut (ps_for PassesOwn.never rfl (pi_range1 (by rfl) M.range (pa_cons (pe_op op_add pe_int (pe_call GD hr1 (by rfl) gD kD bD .nil pass0 (pa_cons (pv 0) (pa_cons (pv 1) (pa_cons pe_int pa_nil))))) pa_nil)) (pg_name (i := 3) scLSh.nd rfl (.inl rfl))
        (pss_cons (ps_set (i := 4) scLSh.nd rfl (.inl rfl) (pe_op op_sub (pe_call GD hr1 (by rfl) gD kD bD .nil pass0 (pa_cons (pv 0) (pa_cons (pv 1) (pa_cons pe_int pa_nil)))) pe_int))
        (pss_one (ps_expr (pe_bm PySem.F.plainAttrs_list PySem.F.slot_list_append PySem.F.type_list_append mt_append (pv 2) (pa_cons (pe_tup (pa_cons (pe_ix ix_list (pe_lst (pa_cons pe_str (pa_cons pe_str pa_nil))) (pv 3) (fun _ _ => rfl)) (pa_cons (pv 4)
          (pa_cons (pe_op op_add (pv 4) (pe_call GD hr1 (by rfl) gD kD bD .nil pass0 (pa_cons (pv 0) (pa_cons (pv 1) (pa_cons pe_int pa_nil))))) (pa_cons (pe_op op_add pe_int (pe_call GD hr1 (by rfl) gD kD bD .nil pass0 (pa_cons (pv 0) (pa_cons (pv 1) (pa_cons pe_int pa_nil))))) pa_nil))))) pa_nil))))))
      (pss_cons (ps_set (i := 5) scLSh.nd rfl (.inl rfl) (pe_lst pa_nil))
      (Evl.pss_cut (ps_for PassesOwn.never rfl (pi_range1 (by rfl) M.range (pa_cons (pe_op op_add pe_int (pe_call GD hr1 (by rfl) gD kD bD .nil pass0 (pa_cons (pv 0) (pa_cons (pv 1) (pa_cons pe_int pa_nil))))) pa_nil)) (pg_name (i := 3) scLSh.nd rfl (.inl rfl))
        (pss_one (ps_expr (pe_bm PySem.F.plainAttrs_list PySem.F.slot_list_append PySem.F.type_list_append mt_append (pv 5) (pa_cons (pe_tup (pa_cons (pe_ix ix_list (pe_lst (pa_cons pe_str (pa_cons pe_str pa_nil))) (pv 3) (fun _ _ => rfl))
          (pa_cons (pe_ix ix_list (pe_lst (pa_cons pe_str (pa_cons pe_str (pa_cons pe_str pa_nil)))) (pe_call GD hr1 (by rfl) gD kD bD .nil pass0 (pa_cons (pv 0) (pa_cons (pv 1) (pa_cons pe_int pa_nil)))) (fun _ _ => rfl)) pa_nil))) pa_nil)))))
      (pss_one (ps_ret (pe_make S'.mkC GI hr (by rfl) gC bI .nil pass0 (pa_cons (pe_callTy call_tuple_of (by rfl) M.tuple (by decide +kernel) (pa_cons (pv 2) pa_nil)) (pa_cons (pe_callTy call_tuple_of (by rfl) M.tuple (by decide +kernel) (pa_cons (pv 5) pa_nil)) pa_nil)))))))), ?_⟩
    refine ⟨Nat.zero_le _, fun p np => ?_⟩
    have hSn : ∀ {H' : Hp} {a : Addr}, SAt H' S → H' a = none → a ≠ S := fun ⟨x, y, e⟩ n z => by rw [z, e] at n; cases n
    have x0 : Ex H (upd H p (.lst [])) S := fun a o e _ => same_new np a o e
    have npS := hSn hS np
    have st0 : SAt (upd H p (.lst [])) S := by
      obtain ⟨x, y, e⟩ := hS
      exact ⟨x, y, same_new np _ _ e⟩
    refine ⟨fun σ H2 => ∃ y3 y4 xs ds, σ = [some (.ref S), some (.ref scr), some (.ref p), y3, y4, none] ∧ Ex H H2 S ∧ SAt H2 S ∧ H2 p = some (.lst xs) ∧ All (fun y d => RowAt H2 d.v y) xs ds ∧ (∀ d ∈ ds, DrD d) ∧ ∃ i, 1 ≤ i ∧ i ≤ 2 ∧ ds.map (·.n) = (["x", "y"] : List Str).take i, ?_, ?_⟩
    · refine ⟨_, rfl, _, rfl, S, scr, 2, ns, rfl, by decide, by decide, st0, sq _ x0, fun H1 v k1 t1 v0 v1 => ⟨_, _, rfl, rfl, ?_⟩⟩
      refine ⟨_, rfl, by omega, by omega, for_range (lo := 0) (n := (1 + v).toNat) (fun i σ H2 => ∃ y3 y4 xs ds, σ = [some (.ref S), some (.ref scr), some (.ref p), y3, y4, none] ∧ Ex H H2 S ∧ SAt H2 S ∧ H2 p = some (.lst xs) ∧ All (fun y d => RowAt H2 d.v y) xs ds ∧ (∀ d ∈ ds, DrD d) ∧ ds.map (·.n) = (["x", "y"] : List Str).take i) ?_ ?_ ?_⟩
      · exact ⟨none, none, [], [], rfl, x0.trans k1, t1, k1 _ _ upd_same npS, All.nil, fun d h => absurd h List.not_mem_nil, rfl⟩
      · rintro i σ H2 hi ⟨y3, y4, xs, ds, rfl, x2, t2, ep, al, dr, hn⟩
        have hi2 : i < 2 := by omega
        obtain ⟨n, n1, n2⟩ := xy_at hi2
        refine ⟨_, rfl, _, rfl, S, scr, 9, ns, rfl, by decide, by decide, t2, sq _ x2, fun H3 v3 k3 t3 a0 a1 => ⟨_, _, rfl, rfl, ?_⟩⟩
        have e3 := k3 _ _ ep npS
        refine ⟨_, rfl, .inl ⟨rfl, _, .inl (.inl e3)⟩, (by show 2 ≤ sizeLine; decide), fun L nL => ?_⟩
        have t3' : SAt (upd H3 L (.lst [.str "x", .str "y"])) S := by
          obtain ⟨x, y, e⟩ := t3
          exact ⟨x, y, same_new nL _ _ e⟩
        have x3 : Ex H2 (upd H3 L (.lst [.str "x", .str "y"])) S := fun a o e n => same_new nL _ _ (k3 _ _ e n)
        refine ⟨_, rfl, L, _, _, .str n, rfl, rfl, .inl (.inl upd_same), by rw [show (0 : Int) + (i : Int) = (i : Int) from by omega]; exact n1, _, rfl, _, rfl, _, rfl, _, rfl, S, scr, 9, ns, rfl, by decide, by decide, t3', sq _ (x2.trans x3), fun H4 v4 k4 t4 b0 b1 => ⟨_, _, rfl, rfl, ?_⟩⟩
        refine ⟨_, rfl, _, rfl, S, scr, 4, ns, rfl, by decide, by decide, t4, sq _ (x2.trans (x3.trans k4)), fun H5 v5 k5 t5 c0 c1 => ⟨_, _, rfl, rfl, (by show 4 ≤ sizeLine; decide), fun t nt => ?_⟩⟩
        have x5 : Ex H2 H5 S := x3.trans (Ex.trans k4 k5)
        have e5 := x5 _ _ ep npS
        have xl := al.1
        have dl : ds.length ≤ 2 := by
          have := congrArg List.length hn
          rw [List.length_map, List.length_take] at this
          show _ ≤ (["x", "y"] : List Str).length
          omega
        refine ⟨p, xs, .ref t, rfl, rfl, same_new nt _ _ e5, small1000 (by omega), _, _, xs ++ [.ref t], ds ++ [⟨n, v3 - 4, v3 - 4 + v4, 1 + v5⟩], rfl, fun a o e m => ?_, ?_, upd_same, ?_, fun d hd => ?_, ?_⟩
        · rw [upd_ne (fun z => by rw [z, np] at e; cases e)]
          exact same_new nt _ _ (x5 _ _ (x2 _ _ e m) m)
        · obtain ⟨x, y, e⟩ := t5
          exact ⟨x, y, by rw [upd_ne npS.symm]; exact same_new nt _ _ e⟩
        · have ntp : t ≠ p := fun z => by rw [z, e5] at nt; cases nt
          refine All.push (al.imp fun y d ⟨b, b1, b2⟩ => ⟨b, b1, ?_⟩) ⟨t, rfl, by rw [upd_ne ntp, upd_same]; rfl⟩
          rw [upd_ne (ne_of b2 ep (by intro z; cases z))]
          obtain ⟨x, y, eS⟩ := t2
          exact same_new nt _ _ (x5 _ _ b2 (ne_of b2 eS (by intro z; cases z)))
        · rcases List.mem_append.mp hd with z | z
          · exact dr d z
          · rw [List.mem_singleton.mp z]
            unfold DrD
            exact ⟨by show -4 ≤ v3 - 4; omega, by show v3 - 4 ≤ 4; omega, by show v3 - 4 ≤ v3 - 4 + v4; omega, by show v3 - 4 + v4 ≤ v3 - 4 + 8; omega, by show 1 ≤ 1 + v5; omega, by show 1 + v5 ≤ 4; omega⟩
        · rw [List.map_append, hn, n2]
          rfl
      · rintro σ H2 ⟨y3, y4, xs, ds, rfl, x2, t2, ep, al, dr, hn⟩
        exact ⟨_, _, xs, ds, rfl, x2, t2, ep, al, dr, (1 + v).toNat, by omega, by omega, hn⟩
    rintro σ H2 ⟨y3, y4, xs, ds, rfl, x2, t2, ep, al, dr, hi⟩
    refine ⟨Nat.zero_le _, fun p2 np2 => ?_⟩
    have p2S := hSn t2 np2
    have p2p : p2 ≠ p := fun z => by rw [z, ep] at np2; cases np2
    have x6 : Ex H2 (upd H2 p2 (.lst [])) S := fun a o e _ => same_new np2 a o e
    have t6 : SAt (upd H2 p2 (.lst [])) S := by
      obtain ⟨x, y, e⟩ := t2
      exact ⟨x, y, same_new np2 _ _ e⟩
    have np2H : H p2 = none := by
      cases e : H p2 with
      | none => rfl
      | some o =>
        have := x2 p2 o e p2S
        rw [np2] at this
        cases this
    refine ⟨fun σ H3 => ∃ (y3 : Option V) (ys : List V) (ts : List T), σ = [some (.ref S), some (.ref scr), some (.ref p), y3, y4, some (.ref p2)] ∧ Ex H2 H3 S ∧ SAt H3 S ∧ H3 p2 = some (.lst ys) ∧ All (fun y d => RowAt H3 d.v y) ys ts ∧ (∀ t ∈ ts, t.k ∈ KS) ∧ ∃ j, 1 ≤ j ∧ j ≤ 2 ∧ ts.map (·.n) = (["v", "w"] : List Str).take j, ?_, ?_⟩
    · refine ⟨_, rfl, _, rfl, S, scr, 2, ns, rfl, by decide, by decide, t6, sq _ (x2.trans x6), fun H1 v k1 t1 v0 v1 => ⟨_, _, rfl, rfl, ?_⟩⟩
      refine ⟨_, rfl, by omega, by omega, for_range (lo := 0) (n := (1 + v).toNat) (fun i σ H3 => ∃ (y3 : Option V) (ys : List V) (ts : List T), σ = [some (.ref S), some (.ref scr), some (.ref p), y3, y4, some (.ref p2)] ∧ Ex H2 H3 S ∧ SAt H3 S ∧ H3 p2 = some (.lst ys) ∧ All (fun y d => RowAt H3 d.v y) ys ts ∧ (∀ t ∈ ts, t.k ∈ KS) ∧ ts.map (·.n) = (["v", "w"] : List Str).take i) ?_ ?_ ?_⟩
      · exact ⟨_, [], [], rfl, x6.trans k1, t1, k1 _ _ upd_same p2S, All.nil, fun d h => absurd h List.not_mem_nil, rfl⟩
      · rintro i σ H3 hi2' ⟨y3, ys, ts, rfl, x3, t3, ep3, al3, dr3, hn⟩
        have hi2 : i < 2 := by omega
        obtain ⟨n, n1, n2⟩ := vw_at hi2
        refine ⟨_, rfl, .inl ⟨rfl, _, .inl (.inl ep3)⟩, (by show 2 ≤ sizeLine; decide), fun L nL => ?_⟩
        refine ⟨_, rfl, L, _, _, .str n, rfl, rfl, .inl (.inl upd_same), by rw [show (0 : Int) + (i : Int) = (i : Int) from by omega]; exact n1, (by show 3 ≤ sizeLine; decide), fun L2 nL2 => ?_⟩
        have x7 : Ex H3 (upd (upd H3 L (.lst [.str "v", .str "w"])) L2 (.lst [.str "int", .str "flag", .str "text"])) S := fun a o e _ => same_new nL2 _ _ (same_new nL _ _ e)
        have t7 : SAt (upd (upd H3 L (.lst [.str "v", .str "w"])) L2 (.lst [.str "int", .str "flag", .str "text"])) S := by
          obtain ⟨x, y, e⟩ := t3
          exact ⟨x, y, same_new nL2 _ _ (same_new nL _ _ e)⟩
        have nL2S : L2 ≠ S := by
          obtain ⟨x, y, e⟩ := t3
          exact (ne_of_none (same_new nL _ _ e) nL2).symm
        refine ⟨_, rfl, _, rfl, S, scr, 3, ns, rfl, by decide, by decide, t7, sq _ (x2.trans (x3.trans x7)), fun H4 v4 k4 t4 b0 b1 => ?_⟩
        obtain ⟨kd, k0, k1'⟩ := ks_at b0 b1
        refine ⟨L2, _, v4, .str kd, rfl, rfl, .inl (.inl (k4 _ _ upd_same nL2S)), k1', (by show 2 ≤ sizeLine; decide), fun t nt => ?_⟩
        have x5 : Ex H3 H4 S := x7.trans k4
        have e5 := x5 _ _ ep3 p2S
        have xl := al3.1
        have dl : ts.length ≤ 2 := by
          have := congrArg List.length hn
          rw [List.length_map, List.length_take] at this
          show _ ≤ (["v", "w"] : List Str).length
          omega
        refine ⟨p2, ys, .ref t, rfl, rfl, same_new nt _ _ e5, small1000 (by omega), _, ys ++ [.ref t], ts ++ [⟨n, kd⟩], rfl, fun a o e m => ?_, ?_, upd_same, ?_, fun d hd => ?_, ?_⟩
        · rw [upd_ne (fun z => by rw [z, np2] at e; cases e)]
          exact same_new nt _ _ (x5 _ _ (x3 _ _ e m) m)
        · obtain ⟨x, y, e⟩ := t4
          exact ⟨x, y, by rw [upd_ne p2S.symm]; exact same_new nt _ _ e⟩
        · have ntp : t ≠ p2 := fun z => by rw [z, e5] at nt; cases nt
          refine All.push (al3.imp fun y d ⟨b, b1, b2⟩ => ⟨b, b1, ?_⟩) ⟨t, rfl, by rw [upd_ne ntp, upd_same]; rfl⟩
          rw [upd_ne (ne_of b2 ep3 (by intro z; cases z))]
          obtain ⟨x, y, eS⟩ := t3
          exact same_new nt _ _ (x5 _ _ b2 (ne_of b2 eS (by intro z; cases z)))
        · rcases List.mem_append.mp hd with z | z
          · exact dr3 d z
          · rw [List.mem_singleton.mp z]
            exact k0
        · rw [List.map_append, hn, n2]
          rfl
      · rintro σ H3 ⟨y3, ys, ts, rfl, x3, t3, ep3, al3, dr3, hn⟩
        exact ⟨_, ys, ts, rfl, x3, t3, ep3, al3, dr3, (1 + v).toNat, by omega, by omega, hn⟩
    rintro σ H3 ⟨y3, ys, ts, rfl, x3, t3, ep3, al3, dr3, hj⟩
    have epp := x3 _ _ ep npS
    have alD : All (fun y d => RowAt H3 d.v y) xs ds := al.imp fun y d ⟨b, b1, b2⟩ => by
      obtain ⟨x, y', eS⟩ := t2
      exact ⟨b, b1, x3 _ _ b2 (ne_of b2 eS (by intro z; cases z))⟩
    refine ⟨_, rfl, p, xs, rfl, .inl ⟨.inl (.inl epp), fun t1 m1 => ?_⟩⟩
    refine ⟨_, rfl, p2, ys, rfl, .inl ⟨.inl (.inl (same_new m1 _ _ ep3)), fun t2 m2 => ?_⟩⟩
    intro a dxa na ndxa nae
    refine ⟨a, dxa, .ref t1, .ref t2, rfl, upd_same, fun H4 x4 e4 => ⟨rfl, ?_⟩⟩
    have s34 : Same H3 H4 := (same_new m1).trans ((same_new m2).trans (mk_same na ndxa x4))
    have t1e : H4 t1 = some (.tup xs) := mk_same na ndxa x4 _ _ (same_new m2 _ _ upd_same)
    have t2e : H4 t2 = some (.tup ys) := mk_same na ndxa x4 _ _ upd_same
    have st4 : SAt H4 S := by
      obtain ⟨x, y, e⟩ := t3
      exact ⟨x, y, s34 _ _ e⟩
    exact q H4 _ ds ts ((x2.trans x3).same s34) st4 ⟨a, dxa, .ref t1, .ref t2, rfl, e4, ⟨t1, xs, rfl, t1e, alD.imp fun y d h => h.same s34⟩, ⟨t2, ys, rfl, t2e, al3.imp fun y d h => h.same s34⟩⟩ ⟨hi, hj, dr, dr3⟩
end
end K2

namespace K2
open PySem L2
def cntD (d : D) : Nat := ((d.h - d.l) / d.s + 1).toNat
/-- one dimension more -/
def rowS (rs : List (List Int)) (d : D) : List (List Int) := rs.flatMap fun r => (List.range (cntD d)).map fun (i : Nat) => r ++ [(i : Int)]
def rowsF (ds : List D) : List (List Int) := ds.foldl rowS [[]]
def IsAt (H : Hp) (x : V) (r : List Int) : Prop := RowAt H (r.map V.int) x
theorem cnt_le {d : D} (h : DrD d) : cntD d ≤ 9 ∧ (cntD d : Int) = (d.h - d.l) / d.s + 1 := by
  unfold DrD at h
  have h0 : 0 ≤ (d.h - d.l) / d.s := Int.ediv_nonneg (by omega) (by omega)
  have h1 : (d.h - d.l) / d.s ≤ d.h - d.l := by
    refine Int.le_trans (Int.ediv_le_self _ (by omega)) (Int.le_refl _)
  unfold cntD
  omega
theorem rowS_len (rs : List (List Int)) {d : D} (h : DrD d) : (rowS rs d).length ≤ 9 * rs.length := by
  unfold rowS
  induction rs with
  | nil => exact Nat.le_refl _
  | cons r t ih =>
    rw [List.flatMap_cons, List.length_append, List.length_map, List.length_range, List.length_cons]
    have := (cnt_le h).1
    omega
theorem rowsF_len {ds : List D} (h : ∀ d ∈ ds, DrD d) (l : ds.length ≤ 2) (i : Nat) : (rowsF (ds.take i)).length ≤ 81 := by
  match ds, h, l with
  | [], _, _ => rw [List.take_nil]; exact (by decide : (1 : Nat) ≤ 81)
  | [a], h, _ =>
    have h1 := rowS_len [[]] (h a List.mem_cons_self)
    match i with
    | 0 => exact (by decide : (1 : Nat) ≤ 81)
    | k + 1 =>
      show (rowsF (a :: ([] : List D).take k)).length ≤ 81
      rw [List.take_nil]
      exact Nat.le_trans h1 (by decide)
  | [a, b], h, _ =>
    have h1 := rowS_len [[]] (h a List.mem_cons_self)
    have h2 := rowS_len (rowS [[]] a) (h b (List.mem_cons_of_mem _ List.mem_cons_self))
    have h1' : (rowS [[]] a).length ≤ 9 := h1
    match i with
    | 0 => exact (by decide : (1 : Nat) ≤ 81)
    | 1 => exact Nat.le_trans h1 (by decide)
    | k + 2 =>
      show (rowsF (a :: b :: ([] : List D).take k)).length ≤ 81
      rw [List.take_nil]
      show (rowS (rowS [[]] a) b).length ≤ 81
      omega
theorem rowsF_succ {ds : List D} {i : Nat} (h : i < ds.length) : rowsF (ds.take (i + 1)) = rowS (rowsF (ds.take i)) ds[i] := by
  unfold rowsF
  rw [List.take_add_one, List.getElem?_eq_getElem h, List.foldl_append]
  rfl
theorem rowsF_row {ds : List D} : ∀ i, i ≤ ds.length → ∀ r ∈ rowsF (ds.take i), r.length ≤ i
  | 0, _, r, h => by
    rw [List.take_zero] at h
    rw [List.mem_singleton.mp h]
    exact Nat.le_refl _
  | i + 1, hi, r, h => by
    rw [rowsF_succ (Nat.lt_of_succ_le hi)] at h
    unfold rowS at h
    obtain ⟨q, hq, hr⟩ := List.mem_flatMap.mp h
    obtain ⟨k, _, rfl⟩ := List.mem_map.mp hr
    have := rowsF_row i (by omega) q hq
    rw [List.length_append]
    exact Nat.succ_le_succ this
section
variable {P : Program} {w : World} {K : PySem.W.Frag} {mg : Str → Option Value} {base : Heap}
def spLC (C : Addr) : Sp := fun vs H Q _ => ∃ (v : V) (ds : List D) (ts : List T), vs = [v] ∧ ShAt H C v ds ts ∧ (∀ d ∈ ds, DrD d) ∧ ds.length ≤ 2 ∧ ∀ H' p xs, Same H H' → H' p = some (.lst xs) → All (IsAt H') xs (rowsF ds) → Q (.ref p) H'
theorem scLC : FnScope ["shape", "rows", "name", "low", "high", "step", "longer", "row", "index"] ["shape"] (defScope sLChunks) := ⟨rfl, rfl, rfl, by decide +kernel, rfl, by decide +kernel, by decide +kernel⟩
theorem ok_lc' {f fI C : Addr} {fd : FuncData} (F : Fun K "_law_chunks" "_law_chunks" sLChunks f fd) (M : Nm mg) (S : KC K C fI SHf) : FnOk P w K mg base CX0 1 f fd ["shape"] (spLC C) := by
  refine F.ok scLC (fun vs H Q E h => ?_) (fun cdv A outer s H vs Q E hr h => ?_)
  · obtain ⟨v, ds, ts, rfl, _⟩ := h
    rfl
  · obtain ⟨v, ds, ts, rfl, ⟨a, dx, v1, v2, rfl, ha, ⟨td, xs, rfl, htd, had⟩, _⟩, dr, dl, q⟩ := h
    refine ⟨_, pss_cons (ps_set (i := 1) scLC.nd rfl (.inl rfl) (pe_lst (pa_cons (pe_tup pa_nil) pa_nil)))
      (pss_cons (ps_for PassesOwn.never rfl (pi_tup (pe_fld (pv 0) rfl)) (pg_tup (by rfl) (pgs_cons (pg_name (i := 2) scLC.nd rfl (.inl rfl)) (pgs_cons (pg_name (i := 3) scLC.nd rfl (.inl rfl)) (pgs_cons (pg_name (i := 4) scLC.nd rfl (.inl rfl)) (pgs_cons (pg_name (i := 5) scLC.nd rfl (.inl rfl)) pgs_nil)))))
        (pss_cons (ps_set (i := 6) scLC.nd rfl (.inl rfl) (pe_lst pa_nil))
        (Evl.pss_cut (ps_for PassesOwn.never rfl (pi_list (pv 1)) (pg_name (i := 7) scLC.nd rfl (.inl rfl))
          (pss_one (ps_for PassesOwn.never rfl (pi_range1 (by rfl) M.range (pa_cons (pe_op op_add (pe_op op_fdiv (pe_op op_sub (pv 4) (pv 3)) (pv 5)) pe_int) pa_nil)) (pg_name (i := 8) scLC.nd rfl (.inl rfl))
            (pss_one (ps_expr (pe_bm PySem.F.plainAttrs_list PySem.F.slot_list_append PySem.F.type_list_append mt_append (pv 6) (pa_cons (pe_op op_catA (pv 7) (pe_tup (pa_cons (pv 8) pa_nil))) pa_nil)))))))
        (pss_one (ps_set (i := 1) scLC.nd rfl (.inl rfl) (pv 6))))))
      (pss_one (ps_ret (pv 1)))), ?_⟩
    refine ⟨Nat.zero_le _, fun t0 m0 => ⟨(by show 1 ≤ sizeLine; decide), fun p np => ?_⟩⟩
    have s0 : Same H (upd (upd H t0 (.tup [])) p (.lst [.ref t0])) := (same_new m0).trans (same_new np)
    refine ⟨_, rfl, a, C, dx, _, .ref td, rfl, s0 _ _ ha, S.cl, S.na _ (by decide +kernel), rfl, td, rfl, ⟨_, SqT.of (s0 _ _ htd)⟩, for_it (walk_tup (xs := xs)) (fun i σ H2 => ∃ p zs y2 y3 y4 y5 y6 y7 y8, σ = [some (.ref a), some (.ref p), y2, y3, y4, y5, y6, y7, y8] ∧ Same H H2 ∧ H2 p = some (.lst zs) ∧ All (IsAt H2) zs (rowsF (ds.take i))) ?_ ?_ ?_ ?_⟩
    · refine ⟨p, [.ref t0], none, none, none, none, none, none, none, rfl, s0, upd_same, ?_⟩
      have := (All.nil (R := IsAt (upd (upd H t0 (.tup [])) p (.lst [.ref t0])))).push (x := .ref t0) (a := []) ⟨t0, rfl, same_new np _ _ upd_same⟩
      exact this
    · rintro i σ H2 hi ⟨p, zs, y2, y3, y4, y5, y6, y7, y8, rfl, s2, _⟩
      exact SqT.of (s2 _ _ htd)
    · rintro i x σ H2 H' hi ⟨p, zs, y2, y3, y4, y5, y6, y7, y8, rfl, s2, ep, al⟩ ⟨rfl, hx⟩
      rw [had.1] at hi
      obtain ⟨b, rfl, hb⟩ := had.at hi hx
      have drd := dr _ (List.getElem_mem hi)
      have rl := rowsF_len dr dl i
      have rl2 := rowsF_len dr dl (i + 1)
      have rrow := rowsF_row i (Nat.le_of_lt hi)
      rw [rowsF_succ hi] at rl2 ⊢
      generalize ds[i] = d at hb drd rl2 ⊢
      generalize rowsF (ds.take i) = rs at al rl rl2 rrow ⊢
      obtain ⟨c1, c2⟩ := cnt_le drd
      have dr2 := drd
      unfold DrD at dr2
      refine ⟨b, _, rfl, SqT.of (s2 _ _ hb), rfl, _, _, rfl, _, _, rfl, _, _, rfl, _, _, rfl, rfl, ?_⟩
      refine ⟨Nat.zero_le _, fun p2 np2 => ?_⟩
      have s3 : Same H' (upd H' p2 (.lst [])) := same_new np2
      refine ⟨fun σ H3 => ∃ ws y7 y8, σ = [some (.ref a), some (.ref p), some (.str d.n), some (.int d.l), some (.int d.h), some (.int d.s), some (.ref p2), y7, y8] ∧ Same H' H3 ∧ H3 p2 = some (.lst ws) ∧ All (IsAt H3) ws (rowS rs d), ?_, ?_⟩
      · refine ⟨_, rfl, p, rfl, ⟨_, .inl (.inl (s3 _ _ ep))⟩, for_it (walk_list (xs := zs)) (fun j σ H3 => ∃ ws y7 y8, σ = [some (.ref a), some (.ref p), some (.str d.n), some (.int d.l), some (.int d.h), some (.int d.s), some (.ref p2), y7, y8] ∧ Same H' H3 ∧ H3 p2 = some (.lst ws) ∧ All (IsAt H3) ws (rowS (rs.take j) d)) ?_ ?_ ?_ ?_⟩
        · exact ⟨[], _, _, rfl, s3, upd_same, All.nil⟩
        · rintro j σ H3 hj ⟨ws, y7, y8, rfl, s4, _⟩
          exact .inl (.inl (s4 _ _ ep))
        · rintro j x σ H3 H4 hj ⟨ws, y7, y8, rfl, s4, e2, alw⟩ ⟨rfl, hx⟩
          rw [al.1] at hj
          obtain ⟨e, rfl, he⟩ := al.at hj hx
          have er : rowS (rs.take (j + 1)) d = rowS (rs.take j) d ++ (List.range (cntD d)).map fun (i : Nat) => rs[j] ++ [(i : Int)] := by
            unfold rowS
            rw [List.take_add_one, List.getElem?_eq_getElem hj, List.flatMap_append]
            show _ ++ [rs[j]].flatMap _ = _
            rw [List.flatMap_singleton]
          have wl : (rowS (rs.take j) d).length ≤ 729 := by
            have := rowS_len (rs.take j) drd
            rw [List.length_take] at this
            omega
          rw [er]
          have rlen := rrow _ (List.getElem_mem hj)
          generalize rs[j] = r at he rlen ⊢
          generalize rowS (rs.take j) d = acc at alw wl ⊢
          refine ⟨_, rfl, _, rfl, _, _, rfl, rfl, _, rfl, _, _, rfl, rfl, ⟨by omega, by omega⟩, _, _, rfl, rfl, ?_⟩
          refine ⟨_, rfl, by omega, by omega, for_range (lo := 0) (n := ((d.h - d.l) / d.s + 1).toNat) (fun k σ H5 => ∃ ws y8, σ = [some (.ref a), some (.ref p), some (.str d.n), some (.int d.l), some (.int d.h), some (.int d.s), some (.ref p2), some (.ref e), y8] ∧ Same H' H5 ∧ H5 p2 = some (.lst ws) ∧ All (IsAt H5) ws (acc ++ (List.range k).map fun (i : Nat) => r ++ [(i : Int)])) ?_ ?_ ?_⟩
          · exact ⟨ws, _, rfl, s4, e2, by rw [List.range_zero, List.map_nil, List.append_nil]; exact alw⟩
          · rintro k σ H5 hk ⟨vs, y8, rfl, s5, e5, al5⟩
            have he5 := s5 _ _ he
            have vl := al5.1
            rw [List.length_append, List.length_map, List.length_range] at vl
            have hk9 : k < 9 := by
              have : cntD d = ((d.h - d.l) / d.s + 1).toNat := rfl
              omega
            have er2 : acc ++ (List.range (k + 1)).map (fun (i : Nat) => r ++ [(i : Int)]) = (acc ++ (List.range k).map (fun (i : Nat) => r ++ [(i : Int)])) ++ [r ++ [(k : Int)]] := by
              rw [List.range_succ, List.map_append, List.append_assoc]
              rfl
            have fin : ∀ (H6 : Hp) (t : Addr), Same H5 H6 → H6 t = some (.tup ((r ++ [(k : Int)]).map V.int)) → ∃ ws y8, [some (V.ref a), some (.ref p), some (.str d.n), some (.int d.l), some (.int d.h), some (.int d.s), some (.ref p2), some (.ref e), some (.int (0 + (k : Int)))] = [some (V.ref a), some (.ref p), some (.str d.n), some (.int d.l), some (.int d.h), some (.int d.s), some (.ref p2), some (.ref e), y8] ∧ Same H' (upd H6 p2 (.lst (vs ++ [.ref t]))) ∧ (upd H6 p2 (.lst (vs ++ [.ref t]))) p2 = some (.lst ws) ∧ All (IsAt (upd H6 p2 (.lst (vs ++ [.ref t])))) ws (acc ++ (List.range (k + 1)).map fun (i : Nat) => r ++ [(i : Int)]) := fun H6 t s6 et => by
              refine ⟨vs ++ [.ref t], _, rfl, fun z o ez => ?_, upd_same, ?_⟩
              · rw [upd_ne (fun y => by rw [y, np2] at ez; cases ez)]
                exact s6 _ _ (s5 _ _ ez)
              · rw [er2]
                have e6 := s6 _ _ e5
                refine All.push (al5.imp fun y q' ⟨b', b1, b2⟩ => ⟨b', b1, ?_⟩) ⟨t, rfl, by rw [upd_ne (ne_of et e6 (by intro z; cases z))]; exact et⟩
                rw [upd_ne (ne_of b2 e5 (by intro z; cases z))]
                exact s6 _ _ b2
            refine ⟨_, rfl, .inl ⟨rfl, _, .inl (.inl e5)⟩, _, rfl, _, rfl, (by show 1 ≤ sizeLine; decide), fun t nt => ?_⟩
            have st := same_new (o := .tup [.int (0 + (k : Int))]) nt
            refine ⟨e, t, _, _, rfl, rfl, SqT.of (st _ _ he5), SqT.of upd_same, ?_, fun hnil => ?_, (fun _ h => by cases h), fun _ _ t2 nt2 => ?_⟩
            · rw [List.length_map]
              show r.length + 1 ≤ sizeLine
              exact big (by omega)
            · refine ⟨p2, vs, .ref t, rfl, rfl, st _ _ e5, small1000 (by omega), fin _ t st ?_⟩
              rw [upd_same]
              have : r = [] := List.map_eq_nil_iff.mp hnil
              rw [this, show (0 : Int) + (k : Int) = (k : Int) from by omega]
              rfl
            · refine ⟨p2, vs, .ref t2, rfl, rfl, same_new nt2 _ _ (st _ _ e5), small1000 (by omega), fin _ t2 (st.trans (same_new nt2)) ?_⟩
              rw [upd_same, show (0 : Int) + (k : Int) = (k : Int) from by omega, List.map_append]
              rfl
          · rintro σ H5 ⟨vs, y8, rfl, s5, e5, al5⟩
            exact ⟨vs, _, _, rfl, s5, e5, al5⟩
        · rintro σ H3 ⟨ws, y7, y8, rfl, s4, e2, alw⟩
          rw [al.1, List.take_length] at alw
          exact ⟨ws, _, _, rfl, s4, e2, alw⟩
      · rintro σ H3 ⟨ws, y7, y8, rfl, s4, e2, alw⟩
        exact ⟨_, rfl, p2, ws, _, _, _, _, _, _, _, rfl, s2.trans s4, e2, alw⟩
    · rintro σ H2 ⟨p, zs, y2, y3, y4, y5, y6, y7, y8, rfl, s2, ep, al⟩
      rw [had.1, List.take_length] at al
      exact ⟨_, rfl, q H2 p zs s2 ep al⟩
end
end K2

namespace K2
open PySem L2
/-- all but lists stay -/
def Kt (H H1 : Hp) : Prop := ∀ a o, H a = some o → (∀ xs, o ≠ .lst xs) → H1 a = some o
theorem Kt.trans {H H1 H2 : Hp} (a : Kt H H1) (b : Kt H1 H2) : Kt H H2 := fun x o e n => b x o (a x o e n) n
theorem kt_same {H H1 : Hp} (s : Same H H1) : Kt H H1 := fun x o e _ => s x o e
theorem kt_ex {H H1 : Hp} {S : Addr} (x : Ex H H1 S) (t : SAt H S) : Kt H H1 := fun a o e n => x a o e fun z => by
  obtain ⟨u, v, eS⟩ := t
  rw [z, eS] at e
  exact n _ (Option.some.inj e).symm
theorem kt_upd {H : Hp} {p : Addr} {xs ys : List V} (e : H p = some (.lst xs)) : Kt H (upd H p (.lst ys)) := fun a o ea n => by
  rw [upd_ne fun z => n xs (by rw [z, e] at ea; exact (Option.some.inj ea).symm)]
  exact ea
section
variable {H H1 : Hp} {C : Addr}
theorem RowAt.kt {r : List V} {x : V} (h : RowAt H r x) (k : Kt H H1) : RowAt H1 r x := let ⟨a, e1, e2⟩ := h; ⟨a, e1, k _ _ e2 (fun _ z => nomatch z)⟩
theorem TupAt.kt {α : Type} {R S : V → α → Prop} {x : V} {l : List α} (h : TupAt H R x l) (k : Kt H H1) (f : ∀ x a, R x a → S x a) : TupAt H1 S x l := let ⟨a, xs, e1, e2, e3⟩ := h; ⟨a, xs, e1, k _ _ e2 (fun _ z => nomatch z), e3.imp f⟩
theorem ShAt.kt {x : V} {ds : List D} {ts : List T} (h : ShAt H C x ds ts) (k : Kt H H1) : ShAt H1 C x ds ts := let ⟨a, dx, u, v, e1, e2, e3, e4⟩ := h
  ⟨a, dx, u, v, e1, k _ _ e2 (fun _ z => nomatch z), e3.kt k fun _ _ z => z.kt k, e4.kt k fun _ _ z => z.kt k⟩
theorem CkAt.kt {x : V} {c : Ck} (h : CkAt H x c) (k : Kt H H1) : CkAt H1 x c := let ⟨a, b, e1, e2, e3⟩ := h; ⟨a, b, e1, k _ _ e2 (fun _ z => nomatch z), k _ _ e3 (fun _ z => nomatch z)⟩
theorem ArAt.kt {x : V} {r : Ar} (h : ArAt H C x r) (k : Kt H H1) : ArAt H1 C x r := let ⟨a, u, v, e1, e2, e3, e4⟩ := h; ⟨a, u, v, e1, k _ _ e2 (fun _ z => nomatch z), e3.kt k, e4.kt k fun _ _ z => z.kt k⟩
theorem VeAt.kt {x : V} {r : Ve} (h : VeAt H C x r) (k : Kt H H1) : VeAt H1 C x r := let ⟨a, v, e1, e2, e3⟩ := h; ⟨a, v, e1, k _ _ e2 (fun _ z => nomatch z), e3.kt k fun _ _ z => z.kt k⟩
end
section
variable {P : Program} {w : World} {K : PySem.W.Frag} {mg : Str → Option Value} {base : Heap}
def RIn (CR C : Addr) : Sp := fun vs H Q _ => ∃ (x dx : Addr) (u v t : V), vs = [.ref x, u, v, t] ∧ H x = some (.ins CR dx []) ∧ ∀ H', Ex H H' x → H' x = some (.ins CR dx [("upcoming", u), ("data", v), ("versions", t)]) → Q .non H'
theorem scRI : FnScope ["self", "upcoming", "data", "versions"] ["self", "upcoming", "data", "versions"] (defScope sRootInit) := ⟨rfl, rfl, rfl, by decide +kernel, rfl, by decide +kernel, by decide +kernel⟩
theorem ok_ri {f CR C : Addr} {fd : FuncData} (F : Fun K "__init__" "Root.__init__" sRootInit f fd) (R : KC K CR f RHf) : FnOk P w K mg base CX0 1 f fd ["self", "upcoming", "data", "versions"] (RIn CR C) := by
  refine F.ok scRI (fun vs H Q E h => ?_) (fun cdv A outer s H vs Q E hr h => ?_)
  · obtain ⟨x, dx, u, v, t, rfl, _⟩ := h
    rfl
  · obtain ⟨x, dx, u, v, t, rfl, hx, q⟩ := h
    refine ⟨_, pss_cons (ps_fld (pv 0) (pv 1) rfl) (pss_cons (ps_fld (pv 0) (pv 2) rfl) (pss_one (ps_fld (pv 0) (pv 3) rfl))), ?_⟩
    refine ⟨_, rfl, _, rfl, x, CR, dx, [], rfl, hx, R.cl, R.na _ (by decide +kernel), (by decide), ?_⟩
    refine ⟨_, rfl, _, rfl, x, CR, dx, _, rfl, upd_same, R.cl, R.na _ (by decide +kernel), (by show 1 < 1000; decide), ?_⟩
    exact ⟨_, rfl, _, rfl, x, CR, dx, _, rfl, upd_same, R.cl, R.na _ (by decide +kernel), (by show 2 < 1000; decide), q _ (fun a o e n => by rw [upd_ne n, upd_ne n, upd_ne n]; exact e) upd_same⟩
end
end K2

namespace K2
open PySem PySem.Spec PyProof.Rows L2
/-! ### t >= u, tuples of ints -/
theorem lexGe {ns ms : List Int} : ∀ (k i : Nat), i + k = min ns.length ms.length →
    Ob.lexAt (fun j => decide (ns.getD j 0 = ms.getD j 0)) (fun j => decide (ms.getD j 0 ≤ ns.getD j 0)) (decide (ns.length ≥ ms.length)) i k = !HT.lexLt (ns.drop i) (ms.drop i)
  | 0, i, h => by
    rw [Ob.lexAt_zero]
    rcases Nat.lt_or_ge ns.length ms.length with g | g
    · rw [decide_eq_false (by omega), List.drop_of_length_le (by omega), List.drop_eq_getElem_cons (show i < ms.length by omega)]
      rfl
    · rw [decide_eq_true g, List.drop_of_length_le (l := ms) (by omega)]
      cases ns.drop i <;> rfl
  | k + 1, i, h => by
    have h1 : i < ns.length := by omega
    have h2 : i < ms.length := by omega
    have g1 : ns.getD i 0 = ns[i] := by rw [List.getD_eq_getElem?_getD, List.getElem?_eq_getElem h1]; rfl
    have g2 : ms.getD i 0 = ms[i] := by rw [List.getD_eq_getElem?_getD, List.getElem?_eq_getElem h2]; rfl
    rw [Ob.lexAt_succ, lexGe k (i + 1) (by omega), List.drop_eq_getElem_cons h1, List.drop_eq_getElem_cons h2]
    rw [g1, g2]
    show _ = !(if ns[i] = ms[i] then HT.lexLt (ns.drop (i + 1)) (ms.drop (i + 1)) else decide (ns[i] < ms[i]))
    by_cases e : ns[i] = ms[i]
    · rw [if_pos e, decide_eq_true e, if_pos rfl]
    · rw [if_neg e, decide_eq_false e, if_neg Bool.false_ne_true]
      by_cases l : ns[i] < ms[i]
      · rw [decide_eq_true l, decide_eq_false (by omega)]
        rfl
      · rw [decide_eq_false l, decide_eq_true (by omega)]
        rfl
def rGeT (K : PySem.W.Frag) : R2 := fun x y H Q => ∃ (a b : Addr) (ns ms : List Int), x = .ref a ∧ y = .ref b ∧ SqT K H a (ns.map V.int) ∧ SqT K H b (ms.map V.int) ∧ Q (.bl (!HT.lexLt ns ms)) H
theorem op_geT {X : Cx} (hu : X.A.units < cLine) : OpR X (compareOp .GtE) (rGeT X.K) := by
  rintro pins s σ H x y v u Q I rx ry ⟨a, b, ns, ms, rfl, rfl, ha, hb, q⟩
  cases rx
  cases ry
  obtain ⟨its, r1, p1, _⟩ := I.tuple ha
  obtain ⟨jts, r2, p2, _⟩ := I.tuple hb
  have i1 : IntsAre its ns := Vals.ints r1
  have i2 : IntsAre jts ms := Vals.ints r2
  have at_ : ∀ {l : List Value} {ks : List Int} (i : IntsAre l ks) (j : Nat) (h : j < l.toArray.size), ∃ t, l.toArray[j] = .int (ks.getD j 0) t := fun i j h => PyProof.Rows.IntsAre.int_at i _ _ (by simp at h; simp [h])
  have R := Ob.RcOp.tuples_ge (A := X.A) (s := s) (e := fun j => decide (ns.getD j 0 = ms.getD j 0)) (r := fun j => decide (ms.getD j 0 ≤ ns.getD j 0)) p1 p2 hu (fun j g1 g2 => by
      obtain ⟨t1, e1⟩ := at_ i1 j g1
      obtain ⟨t2, e2⟩ := at_ i2 j g2
      rw [e1, e2]
      have y : decide (ns.getD j 0 = ms.getD j 0) = (ns.getD j 0 == ms.getD j 0) := rfl
      rw [y]
      exact SeqAt.EqAt.int_int _ _ _ _) (fun j g1 g2 _ => by
      obtain ⟨t1, e1⟩ := at_ i1 j g1
      obtain ⟨t2, e2⟩ := at_ i2 j g2
      rw [e1, e2]
      exact Ob.RcOp.ge_int _ _ _ _)
  have s1 : its.toArray.size = ns.length := by rw [List.size_toArray]; exact i1.length
  have s2 : jts.toArray.size = ms.length := by rw [List.size_toArray]; exact i2.length
  rw [s1, s2, lexGe _ 0 (by omega)] at R
  exact R X.prog X.w X.xe (EP X pins σ Q) ⟨.bl _, H, I, rfl, q⟩
/-! ### a shape beside a reader -/
theorem ShAt.ex {CO C : Addr} {H H1 : Hp} {r lo : Addr} {os : List Int} {n : Nat} {x : V} {ds : List D} {ts : List T} (h : ShAt H C x ds ts) (e : Ex H H1 r) (rd : RdAt CO H r lo os n) : ShAt H1 C x ds ts := by
  obtain ⟨a, dx, u, v, e1, e2, ⟨a3, xs3, f1, f2, f3⟩, ⟨a4, xs4, g1, g2, g3⟩⟩ := h
  obtain ⟨dr, er⟩ := rd.i
  have na : a ≠ r := ne_of e2 er (by
    intro z
    injection z with _ _ z
    injection z with z _
    injection z with z _
    exact absurd z (by decide +kernel))
  exact ⟨a, dx, u, v, e1, e _ _ e2 na, ⟨a3, xs3, f1, e _ _ f2 (ne_of f2 er (by intro z; cases z)), f3.imp fun y d h => h.ex e rd⟩, ⟨a4, xs4, g1, e _ _ g2 (ne_of g2 er (by intro z; cases z)), g3.imp fun y d h => h.ex e rd⟩⟩
end K2

/-! zip of a tuple and a list -/
namespace K2
open PySem PySem.Spec PyProof.Rows L2
def ItTL (K : PySem.W.Frag) (a b : Addr) (xs ys : List V) : It :=
  ⟨fun i H => (SqT K H a xs ∧ SqL K H b ys) ∧ i < xs.length ∧ i < ys.length,
    fun i H v H' => ∃ T x y, v = .ref T ∧ H T = none ∧ H' = upd H T (.tup [x, y]) ∧ xs[i]? = some x ∧ ys[i]? = some y,
    fun i H => (SqT K H a xs ∧ SqL K H b ys) ∧ i ≤ xs.length ∧ i ≤ ys.length ∧ (i = xs.length ∨ i = ys.length)⟩
def StTL (z TI TO i1 i2 a b : Addr) (i : Nat) (h : Heap) : Prop :=
  IsZip h z TI TO .none ∧ IsTupOf2 h TI (.ref i1) (.ref i2) ∧ (∃ x y, IsTupOf2 h TO x y) ∧ h.IsTupleIter i1 a i ∧ h.IsListIter i2 b i
structure SepTL (z TI TO i1 i2 a b : Addr) : Prop where
  s : ZipSep2 z TI TO i1 i2 [i1, a] [i2, b]
  a1 : a ≠ i1
  b2 : b ≠ i2
theorem sepTL (n a b : Nat) (ha : a < n) (hb : b < n) : SepTL (n + 4) (n + 2) (n + 3) n (n + 1) a b := by
  have m2 : ∀ {x y z : Nat}, x ≠ y → x ≠ z → x ∉ [y, z] := fun h1 h2 q => by
    rcases List.mem_cons.mp q with e | q
    · exact h1 e
    · exact h2 (List.mem_singleton.mp q)
  have k1 : ∀ i j : Nat, i ≠ j → n + i ≠ n + j := fun i j h => by omega
  have k2 : ∀ i j : Nat, j < n → n + i ≠ j := fun i j h => by omega
  exact ⟨⟨k1 2 4 (by decide), k1 3 4 (by decide), k1 2 3 (by decide), k1 2 0 (by decide), List.mem_cons_self, m2 (k1 4 0 (by decide)) (k2 4 a ha), m2 (k1 3 0 (by decide)) (k2 3 a ha), k1 2 1 (by decide), List.mem_cons_self, m2 (k1 4 1 (by decide)) (k2 4 b hb), m2 (k1 3 1 (by decide)) (k2 3 b hb), m2 (k1 0 1 (by decide)) (k2 0 b hb), m2 (k1 1 0 (by decide)) (k2 1 a ha)⟩, (k2 0 a ha).symm, (k2 1 b hb).symm⟩
theorem tu_zipTL {P : Program} {w : World} {K : PySem.W.Frag} {elts : List Expr} {kk : Nat} {tpos : Pos} {a b z TI TO i1 i2 : Addr} (xs ys : List V) (S : SepTL z TI TO i1 i2 a b) :
    Turn P w K (.Tuple elts kk tpos) (ItTL K a b xs ys) [z, TI, TO, i1, i2] z (StTL z TI TO i1 i2 a b) := by
  have five : ∀ {p : Addr → Prop}, p z → p TI → p TO → p i1 → p i2 → ∀ c ∈ [z, TI, TO, i1, i2], p c := by
    intro p q1 q2 q3 q4 q5 c hc
    rcases List.mem_cons.mp hc with rfl | hc
    · exact q1
    rcases List.mem_cons.mp hc with rfl | hc
    · exact q2
    rcases List.mem_cons.mp hc with rfl | hc
    · exact q3
    rcases List.mem_cons.mp hc with rfl | hc
    · exact q4
    rw [List.mem_singleton.mp hc]
    exact q5
  refine ⟨by simp, fun i h st => ?_, fun i h h' st k => ?_, ?_, ?_, fun A i s Q E st h => wpAny_pyIter_zip st.1 h⟩
  · obtain ⟨q1, q2, ⟨x, y, q3⟩, ⟨o1, e1, _, d1⟩, ⟨o2, e2, _, d2⟩⟩ := st
    exact five (p := fun b => ∃ o, h.get? b = some o ∧ ∀ v, o.data ≠ .cell v) ⟨_, q1, fun v q => nomatch q⟩ ⟨_, q2, fun v q => nomatch q⟩ ⟨_, q3, fun v q => nomatch q⟩ ⟨o1, e1, fun v q => by rw [d1] at q; cases q⟩ ⟨o2, e2, fun v q => by rw [d2] at q; cases q⟩
  · obtain ⟨q1, q2, ⟨x, y, q3⟩, q4, q5⟩ := st
    exact ⟨k z (by simp) _ q1, k TI (by simp) _ q2, ⟨x, y, k TO (by simp) _ q3⟩, q4.at fun o q => k i1 (by simp) o q, q5.at fun o q => k i2 (by simp) o q⟩
  · intro X hP hw hK hc i pins s σ H E I hf st hg
    subst hP hw hK
    obtain ⟨q1, q2, ⟨x0, y0, q3⟩, q4, q5⟩ := st
    obtain ⟨⟨ha, hb⟩, hi, hj⟩ := hg
    obtain ⟨its, rv, p, _⟩ := I.tuple ha
    obtain ⟨jts, rw', p', _⟩ := I.list hb
    have pt : s.heap.IsTuple a its.toArray := p
    have pl : s.heap.IsList b jts.toArray := p'.isList
    obtain ⟨u, hu, ru⟩ := rv.get (List.getElem?_eq_getElem hi)
    obtain ⟨v, hv, rv'⟩ := rw'.get (List.getElem?_eq_getElem hj)
    have hi2 : i < its.toArray.size := by rw [List.size_toArray, ← rv.length]; exact hi
    have hj2 : i < jts.toArray.size := by rw [List.size_toArray, ← rw'.length]; exact hj
    have lt : ∀ c ∈ [z, TI, TO, i1, i2], c < s.heap.objs.size := five (p := fun c => c < s.heap.objs.size) (Heap.lt_size q1) (Heap.lt_size q2) (Heap.lt_size q3) (let ⟨_, q, _⟩ := q4; Heap.lt_size q) (let ⟨_, q, _⟩ := q5; Heap.lt_size q)
    refine wpAny_pyNext_zipD2_item S.s (Draws.tuple (prog := X.prog) (w := X.w) (A := X.A.in1) (I.ok.hd hc) i1 a S.a1 its.toArray) (Draws.list (prog := X.prog) (w := X.w) (A := X.A.in1) (I.ok.hd hc) i2 b S.b2 jts.toArray) q1 q2 q3 ⟨q4, pt⟩ ⟨q5, pl⟩ hi2 hj2
      fun x1 x2 h2 tk hx1 hx2 z2 t2 w1 w2 nT hsz hk => ?_
    have ex : x1 = u := by
      have y : its.toArray[i]? = some x1 := hx1
      rw [List.getElem?_toArray, hu] at y
      exact (Option.some.inj y).symm
    have ey : x2 = v := by
      have y : jts.toArray[i]? = some x2 := hx2
      rw [List.getElem?_toArray, hv] at y
      exact (Option.some.inj y).symm
    subst ex ey
    refine ⟨_, rfl, wpAny_letOwnedTupleGo_zip (s := { s with heap := h2, toks := tk }) z2 fun h3 z3 sb => ?_⟩
    have lz := lt z (by simp)
    have nT3 : h3.get? s.heap.objs.size = some { cls := .type "tuple", data := .seq #[x1, x2] } := (sb.2 _ (Nat.ne_of_gt lz)).trans nT
    have sm3 : ∀ c ob, c ∉ [z, TI, TO, i1, i2] → s.heap.get? c = some ob → h3.get? c = some ob := fun c ob hb q => by
      have n1 : c ≠ z := fun z => hb (by simp [z])
      exact (sb.2 c n1).trans (hk c ob n1 (fun z => hb (by simp [z])) (fun z => hb (by simp [z])) (fun z => hb (by simp [z])) q)
    have nw : ObjOk X.prog X.w (upd H s.heap.objs.size (.tup [xs[i], ys[i]])) h3 s.heap.objs.size (.tup [xs[i], ys[i]]) :=
      ⟨by show 2 ≤ sizeLine; decide, [x1, x2], .cons ru (.cons rv' .nil), _, nT3, rfl, _, rfl⟩
    have I3 := I.turnedNew (t' := tk) (ch := [z, TI, TO, i1, i2]) sm3 hf (Nat.le_refl _) nw
    refine ⟨.ref s.heap.objs.size, _, I3, rfl, ⟨_, xs[i], ys[i], rfl, I.hok.fresh (Nat.le_refl _), rfl, List.getElem?_eq_getElem hi, List.getElem?_eq_getElem hj⟩, ⟨z3, ?_, ⟨x1, x2, (sb.2 _ S.s.TOz).trans t2⟩, w1.1.at fun o q => (sb.2 i1 S.s.zi1.symm).trans q, w2.1.at fun o q => (sb.2 i2 S.s.zi2.symm).trans q⟩, fun c hcm => ?_⟩
    · exact (sb.2 _ S.s.TIz).trans (hk TI _ S.s.TIz S.s.TITO S.s.TIi1 S.s.TIi2 q2)
    · rw [upd_ne (Nat.ne_of_lt (lt c hcm))]
      exact (hf c hcm).1
  · intro X hP hw hK hc i pins s σ H E I hf st hg
    subst hP hw hK
    obtain ⟨q1, q2, ⟨x0, y0, q3⟩, q4, q5⟩ := st
    obtain ⟨⟨ha, hb⟩, hi, hj, he⟩ := hg
    obtain ⟨its, rv, p, _⟩ := I.tuple ha
    obtain ⟨jts, rw', p', _⟩ := I.list hb
    have pt : s.heap.IsTuple a its.toArray := p
    have pl : s.heap.IsList b jts.toArray := p'.isList
    have l1 : its.toArray.size = xs.length := by rw [List.size_toArray, ← rv.length]
    have l2 : jts.toArray.size = ys.length := by rw [List.size_toArray, ← rw'.length]
    refine wpAny_pyNext_zipD2_end S.s (Draws.tuple (prog := X.prog) (w := X.w) (A := X.A.in1) (I.ok.hd hc) i1 a S.a1 its.toArray) (Draws.list (prog := X.prog) (w := X.w) (A := X.A.in1) (I.ok.hd hc) i2 b S.b2 jts.toArray) q1 q2 q3 ⟨q4, pt⟩ ⟨q5, pl⟩ (by omega) (by omega) (by omega)
      fun h2 tk hk => ⟨rfl, I.turnedL (t' := tk) (ch := [z, TI, TO, i1, i2]) (fun c o hb q => hk c o (fun z => hb (by simp [z])) (fun z => hb (by simp [z])) (fun z => hb (by simp [z])) (fun z => hb (by simp [z])) q) hf⟩
def iZipTL (K : PySem.W.Frag) (ta : TA) : TI := fun σ H R => ta σ H fun vs H1 => ∃ a b xs ys, vs = [.ref a, .ref b] ∧ (SqT K H1 a xs ∧ SqL K H1 b ys) ∧ R (ItTL K a b xs ys) H1
theorem pi_zipTL {X : Cx} {e e2 : Expr} {ta : TA} {p pos tpos : Pos} {elts : List Expr} {kk : Nat} (hg : Gl X "zip") (hm : X.mg "zip" = none) (ha : PA X [e, e2] ta)
    (hs : starEach [e, e2] X.env = (false, eval e X.env) :: starEach [e2] X.env := by rfl) (hs2 : (backTo pos (starEach [e2] X.env)).any (·.1) = false := by rfl) :
    PI X (.Tuple elts kk tpos) (.Call (.Name "zip" p) [e, e2] [] pos) (iZipTL X.K ta) := by
  refine ⟨fun pins s σ H R I h => Call_ (ld_blt I hg hm boot_zip (PyProof.Rows.callWith_type1 (thn (ha.run pos pins s σ H _ I h) fun us s1 ⟨vs, H1, I1, r1, a, b, xs, ys, ex, ⟨h1, h2⟩, q⟩ => ?_) hs hs2))⟩
  subst ex
  obtain ⟨its, rv, p1, _⟩ := I1.tuple h1
  obtain ⟨jts, rw', p2, _⟩ := I1.list h2
  have pt : s1.heap.IsTuple a its.toArray := p1
  have pl : s1.heap.IsList b jts.toArray := p2.isList
  have la : a < s1.heap.objs.size := by obtain ⟨_, q, _⟩ := id pt; exact Heap.lt_size q
  have lb : b < s1.heap.objs.size := by obtain ⟨_, q, _⟩ := id pl; exact Heap.lt_size q
  cases r1 with
  | cons r rr =>
    cases rr with
    | cons r' rr =>
      cases rr
      cases r
      cases r'
      refine zip_begins2 (begins_tuple a its.toArray) (begins_list b jts.toArray) pt pl fun h2 z1 z2 z3 z4 z5 sz hk => wpAny_pyIter_zip z1 ?_
      have S := sepTL s1.heap.objs.size a b la lb
      refine ⟨s1.heap.objs.size + 4, [s1.heap.objs.size + 4, s1.heap.objs.size + 2, s1.heap.objs.size + 3, s1.heap.objs.size, s1.heap.objs.size + 1], _, _, H1, rfl, I1.kept (t' := s1.toks) hk, tu_zipTL xs ys S, ⟨z1, z2, ⟨_, _, z3⟩, ⟨_, z4, rfl, rfl⟩, ⟨_, z5, rfl, rfl⟩⟩, fun c hc => ?_, q⟩
      have lc : s1.heap.objs.size ≤ c := by
        have k0 : ∀ i : Nat, s1.heap.objs.size ≤ s1.heap.objs.size + i := fun i => Nat.le_add_right _ i
        simp only [List.mem_cons, List.not_mem_nil, or_false] at hc
        rcases hc with rfl | rfl | rfl | rfl | rfl
        · exact k0 4
        · exact k0 2
        · exact k0 3
        · exact k0 0
        · exact k0 1
      exact I1.fpOk lc (I1.hok.fresh lc)
theorem walk_zipTL {K : PySem.W.Frag} {a b : Addr} {xs ys : List V} (hl : xs.length = ys.length) : Walk (ItTL K a b xs ys) xs.length (fun H => SqT K H a xs ∧ SqL K H b ys) (YPair (fun i => xs[i]?) (fun i => ys[i]?)) :=
  ⟨fun i _ hi q => ⟨q, hi, hl ▸ hi⟩, fun _ q => ⟨q, Nat.le_refl _, Nat.le_of_eq hl, .inl rfl⟩, fun i H v H' _ q ⟨T, x, y, h1, h2, h3, h4, h5⟩ => ⟨T, x, y, h1, h2, h3, h4, h5⟩⟩
end K2

namespace K2
open PySem L2
theorem pg_tupK {X : Cx} {es : List Expr} {k : Nat} {t : TGs} {n : Nat} {pos : Pos} (K : PySem.W.Frag) (hK : X.K = K) (hc : X.calm = true) (h : PGs X es t)
    (hn : (assignEach es X.env).length = n := by rfl) (hst : (assignEach es X.env).findIdx? (·.1) = none := by rfl) : PG X (.Tuple es k pos) (gTup K n t) := by
  subst hK
  exact pg_tup hc h hn hst
theorem andF {b : Bool} {A B : Prop} (h1 : b = true → B → A) (h2 : B) : if b = true then A else B := by
  cases b
  · exact h2
  · exact h1 rfl h2
theorem atI_neg1 {xs : List V} {v : V} (h : xs[xs.length - 1]? = some v) : atI xs (-1) = some v := by
  rcases List.eq_nil_or_concat xs with rfl | ⟨l, b, rfl⟩
  · simp at h
  · rw [List.concat_eq_append] at h ⊢
    rw [List.length_append, List.getElem?_append_right (by show _ ≤ l.length + 1 - 1; omega)] at h
    have : l.length + [b].length - 1 - l.length = 0 := by show l.length + 1 - 1 - l.length = 0; omega
    rw [this] at h
    obtain rfl := Option.some.inj h
    exact atI_last l _
def mx (d : D) : Int := (d.h - d.l) / d.s
structure GCk (ds : List D) (c : Ck) : Prop where
  len : c.c.length = ds.length
  ix : ∀ (i : Nat) (h : i < c.c.length) (h2 : i < ds.length), 0 ≤ c.c[i] ∧ c.c[i] ≤ mx ds[i]
  o : 0 ≤ c.o ∧ c.o < 4294967296
  l : 0 ≤ c.l ∧ c.l < 4294967296
structure GCs (ds : List D) (cs : List Ck) : Prop where
  len : cs.length ≤ 1000000
  ck : ∀ c ∈ cs, GCk ds c
  up : ∀ (i : Nat) (h : i + 1 < cs.length), HT.lexLt cs[i].c cs[i + 1].c = true
theorem CkAt.ex {CO : Addr} {H H1 : Hp} {r lo : Addr} {os : List Int} {n : Nat} {x : V} {c : Ck} (h : CkAt H x c) (e : Ex H H1 r) (rd : RdAt CO H r lo os n) : CkAt H1 x c := by
  obtain ⟨a, b, e1, e2, e3⟩ := h
  obtain ⟨dr, er⟩ := rd.i
  exact ⟨a, b, e1, e _ _ e2 (ne_of e2 er (by intro z; cases z)), e _ _ e3 (ne_of e3 er (by intro z; cases z))⟩
theorem mx_le {d : D} (g : GDs d) : mx d < 4294967296 := by
  have h1 := g.lh
  have h2 := g.h1
  have h3 := g.l0
  have h4 := g.s0
  unfold mx
  have : (d.h - d.l) / d.s ≤ d.h - d.l := Int.ediv_le_self _ (by omega)
  omega
section
variable {P : Program} {w : World} {K : PySem.W.Frag} {mg : Str → Option Value} {base : Heap}
def spRC (CO C : Addr) : Sp := fun vs H Q _ => ∃ (r lo : Addr) (v : V) (os rest : List Int) (n : Nat) (ds : List D) (ts : List T) (cs : List Ck), vs = [.ref r, v] ∧ RdAt CO H r lo os n ∧ os.drop n = eCs cs ++ rest ∧ ShAt H C v ds ts ∧ GSh ds ts ∧ GCs ds cs ∧
  ∀ H' t, Ex H H' r → RdAt CO H' r lo os (n + (eCs cs).length) → TupAt H' (CkAt H') t cs → Q t H'
theorem scRC : FnScope ["reader", "shape", "last", "chunks", "_", "first", "chunk", "offset", "name", "low", "high", "step", "index", "most"] ["reader", "shape"] (defScope sReadChunks) := ⟨rfl, rfl, rfl, by decide +kernel, rfl, by decide +kernel, by decide +kernel⟩
theorem ok_rc {f fI CO C : Addr} {fd : FuncData} (F : Fun K "read_chunks" "read_chunks" sReadChunks f fd) (M : Nm mg) (hall : mg "all" = none) (Z : RF P w K mg base CO) (S : KC K C fI SHf) : FnOk P w K mg base CX0 3 f fd ["reader", "shape"] (spRC CO C) := by
  have G4 := Z.G4
  have T := Z.T
  refine F.ok scRC (fun vs H Q E h => ?_) (fun cdv A outer s H vs Q E hr h => ?_)
  · obtain ⟨r, lo, v, os, rest, n, ds, ts, cs, rfl, _⟩ := h
    rfl
  · obtain ⟨r, lo, v, os, rest, n, ds, ts, cs, rfl, rd, hd, sh, g, gc, q⟩ := h
    refine ⟨_, Evl.pss_cut (ps_setLc (i := 2) (own := [("name", 8), ("low", 9), ("high", 10), ("step", 11)]) (g := gTup K 4 (gCons (gName 8) (gCons (gName 9) (gCons (gName 10) (gCons (gName 11) gNil))))) (tt := tYes) rfl scRC.nd rfl rfl (sw_true rfl rfl rfl (by decide +kernel)) (pi_tup (pe_fld (pv 1) rfl))
          (blkOk_by (N := ["reader", "shape", "last", "chunks", "_", "first", "chunk", "offset", "name", "low", "high", "step", "index", "most"]) (sc := defScope sReadChunks) (by decide +kernel))
          (fun _ _ _ _ _ => pg_tupK K rfl (by rfl) (pgs_cons (pg_name (i := 8) scRC.nd rfl (Or.inl rfl)) (pgs_cons (pg_name (i := 9) scRC.nd rfl (Or.inl rfl)) (pgs_cons (pg_name (i := 10) scRC.nd rfl (Or.inl rfl)) (pgs_cons (pg_name (i := 11) scRC.nd rfl (Or.inl rfl)) pgs_nil)))))
          (fun _ _ _ _ _ => pts_nil) (fun _ _ _ _ _ => pe_op op_fdiv (pe_op op_sub (pv 10) (pv 9)) (pv 11)))
      (pss_cons (ps_set (i := 3) scRC.nd rfl (.inl rfl) (pe_lst pa_nil))
      (pss_cons (ps_for PassesOwn.never rfl (pi_range1 (by rfl) M.range (pa_cons (pe_meth0 (pv 0) T.cl Z.m4 G4 hr Z.b4 .nil pass0) pa_nil)) (pg_name (i := 4) scRC.nd rfl (.inl rfl))
        (pss_cons (ps_set (i := 5) scRC.nd rfl (.inl rfl) (pe_fld (pv 0) rfl))
        (pss_cons (ps_set (i := 6) scRC.nd rfl (.inl rfl) (pe_callTy call_tuple_of (by rfl) M.tuple (by decide +kernel) (pa_cons
            (pe_lc (own := [("_", 4)]) (g := gName 4) (tt := tYes) rfl scRC.nd (pi_tup (pe_fld (pv 1) rfl)) (blkOk_by (N := ["reader", "shape", "last", "chunks", "_", "first", "chunk", "offset", "name", "low", "high", "step", "index", "most"]) (sc := defScope sReadChunks) (by decide +kernel))
              (fun _ _ _ _ _ => pg_name (i := 4) scRC.nd rfl (Or.inl rfl)) (fun _ _ _ _ _ => pts_nil) (fun _ _ _ _ _ => pe_meth0 (pv 0) T.cl Z.m4 G4 hr Z.b4 .nil pass0)) pa_nil)))
        (pss_cons (ps_if (pt_not (pt_val (pe_callB (cr_all rfl) (by rfl) hall (by decide +kernel) (pa_cons
            (pe_lc (own := [("index", 12), ("most", 13)]) (g := gTup K 2 (gCons (gName 12) (gCons (gName 13) gNil))) (tt := tYes) rfl scRC.nd (pi_zipTL (by rfl) M.zip (pa_cons (pv 6) (pa_cons (pv 2) pa_nil))) (blkOk_by (N := ["reader", "shape", "last", "chunks", "_", "first", "chunk", "offset", "name", "low", "high", "step", "index", "most"]) (sc := defScope sReadChunks) (by decide +kernel))
              (fun _ _ _ _ _ => pg_tupK K rfl (by rfl) (pgs_cons (pg_name (i := 12) scRC.nd rfl (Or.inl rfl)) (pgs_cons (pg_name (i := 13) scRC.nd rfl (Or.inl rfl)) pgs_nil))) (fun _ _ _ _ _ => pts_nil) (fun _ _ _ _ _ => pe_cmpR op_le (pv 12) (pv 13) (nomark _))) pa_nil)))) pss_dead pss_nil)
        (pss_cons (ps_if (PW.pt (pw_and (pt_truth (pv 3) (by intro _; rfl)) (pw_and1 (pt_cmpR (op_geT hr.units0) (pe_ix ix_tup (pe_ix ix_list (pv 3) (pe_un un_neg pe_int) (fun _ _ => rfl)) pe_int (fun _ _ => rfl)) (pv 6) (nomark _))))) pss_dead pss_nil)
        (pss_cons (ps_set (i := 7) scRC.nd rfl (.inl rfl) (pe_meth0 (pv 0) T.cl Z.m4 G4 hr Z.b4 .nil pass0))
        (pss_one (ps_expr (pe_bm PySem.F.plainAttrs_list PySem.F.slot_list_append PySem.F.type_list_append mt_append (pv 3) (pa_cons (pe_tup (pa_cons (pv 6) (pa_cons (pv 7) (pa_cons (pe_meth0 (pv 0) T.cl Z.m4 G4 hr Z.b4 .nil pass0) pa_nil)))) pa_nil))))))))))
      (pss_one (ps_ret (pe_callTy call_tuple_of (by rfl) M.tuple (by decide +kernel) (pa_cons (pv 3) pa_nil)))))), ?_⟩
    have sh0 := sh
    obtain ⟨a, dx, v1, v2, rfl, ha, ⟨td, xs, rfl, htd, had⟩, _⟩ := sh
    have hxl := had.1
    have n1 : NoAttr K C "dims" := S.na _ (by decide +kernel)
    have gd0 := g.d0
    have nar : a ≠ r := by
      obtain ⟨dr, er⟩ := rd.i
      refine ne_of ha er ?_
      intro z
      injection z with _ _ z
      injection z with z _
      injection z with z _
      exact absurd z (by decide +kernel)
    have ntd : td ≠ r := by
      obtain ⟨dr, er⟩ := rd.i
      exact ne_of htd er (by intro z; cases z)
    refine ⟨fun σ H2 => ∃ pl, σ = [some (.ref r), some (.ref a), some (.ref pl), none, none, none, none, none, none, none, none, none, none, none] ∧ Same H H2 ∧ H2 pl = some (.lst ((ds.map mx).map V.int)), ?_, ?_⟩
    · refine ⟨_, rfl, a, C, dx, _, .ref td, rfl, ha, S.cl, n1, rfl, td, rfl, ⟨_, SqT.of htd⟩, fun D nD => lc_tup (xs := xs) (fun i H2 => Same H H2 ∧ H2 D = some (.lst (((ds.take i).map mx).map V.int))) ?_ ?_ ?_ ?_⟩
      · exact ⟨same_new nD, upd_same⟩
      · rintro i H2 hi ⟨s2, _⟩
        exact SqT.of (s2 _ _ htd)
      · rintro i x H2 hx ⟨s2, eD⟩
        have hi : i < ds.length := by
          rw [← hxl]
          exact (List.getElem?_eq_some_iff.mp hx).1
        obtain ⟨b, rfl, hb⟩ := had.at hi hx
        have gd := g.d _ (List.getElem_mem hi)
        have h3 := gd.s0
        have h4 := gd.s1
        refine ⟨b, _, rfl, SqT.of (s2 _ _ hb), rfl, _, _, rfl, _, _, rfl, _, _, rfl, _, _, rfl, rfl, rfl, ?_⟩
        dsimp only [tYes]
        rw [if_pos rfl]
        refine ⟨_, rfl, _, rfl, _, _, rfl, rfl, _, rfl, _, _, rfl, rfl, ⟨by omega, by omega⟩, _, eD, ?_, ?_, ?_⟩
        · rw [List.length_map, List.length_map, List.length_take]
          exact small1000 (by omega)
        · intro z o e
          rw [upd_ne (fun y => by rw [y, nD] at e; cases e)]
          exact s2 _ _ e
        · rw [upd_same, List.take_add_one, List.getElem?_eq_getElem hi, List.map_append, List.map_append]
          rfl
      · rintro H2 ⟨s2, eD⟩
        rw [hxl, List.take_length] at eD
        exact ⟨D, rfl, s2, eD⟩
    rintro σ H2 ⟨pl, rfl, s2, epl⟩
    have rd2 := rd.same s2
    have nplr : pl ≠ r := by
      obtain ⟨dr, er⟩ := rd2.i
      exact ne_of epl er (by intro z; cases z)
    refine ⟨Nat.zero_le _, fun pc npc => ?_⟩
    have npcH : H pc = none := s2.free npc
    have s3 : Same H2 (upd H2 pc (.lst [])) := same_new npc
    have rd3 := rd2.same s3
    obtain ⟨dr, er⟩ := rd3.i
    have hd1 : os.drop n = w4 (cs.length : Int) ++ (cs.flatMap eCk ++ rest) := by
      rw [hd]
      unfold eCs
      simp only [List.append_assoc]
    have gl := gc.len
    have npcr : pc ≠ r := fun z => by
      obtain ⟨dr2, er2⟩ := rd2.i
      rw [z, er2] at npc
      cases npc
    refine ⟨_, rfl, r, dr, _, rfl, er, rfl, r, lo, os, _, (cs.length : Int), n, rfl, rd3, hd1, by omega, by omega, fun H4 x4 rd4 => ?_⟩
    have hd2 := drop_add' hd1
    have hd2' : os.drop (n + 4) = cs.flatMap eCk ++ rest := hd2
    refine ⟨(cs.length : Int), rfl, by omega, by omega, for_range (lo := 0) (n := (cs.length : Int).toNat) (fun i σ H5 => ∃ y4 y5 y6 y7 ws, σ = [some (.ref r), some (.ref a), some (.ref pl), some (.ref pc), y4, y5, y6, y7, none, none, none, none, none, none] ∧ Ex H H5 r ∧ RdAt CO H5 r lo os (n + 4 + ((cs.take i).flatMap eCk).length) ∧ H5 pl = some (.lst ((ds.map mx).map V.int)) ∧ H5 pc = some (.lst ws) ∧ All (CkAt H5) ws (cs.take i)) ?_ ?_ ?_⟩
    · exact ⟨_, _, _, _, [], rfl, ((Same.ex s2).trans (Same.ex s3)).trans x4, rd4, x4 _ _ (s3 _ _ epl) nplr, x4 _ _ upd_same npcr, All.nil⟩
    · rintro i σ H5 hi ⟨y4, y5, y6, y7, ws, rfl, x5, rd5, epl5, epc5, al⟩
      have hi2 : i < cs.length := by omega
      have hdc := at_i hd2' hi2
      have gk := gc.ck _ (List.getElem_mem hi2)
      have hup : 0 < i → ∃ c', (cs.take i)[i - 1]? = some c' ∧ HT.lexLt c'.c cs[i].c = true := fun h => by
        refine ⟨cs[i - 1], ?_, ?_⟩
        · rw [List.getElem?_take_of_lt (by omega), List.getElem?_eq_getElem (by omega)]
        · have := gc.up (i - 1) (by omega)
          have e : i - 1 + 1 = i := by omega
          simp only [e] at this
          exact this
      have xl := al.1
      rw [List.length_take] at xl
      have en := len_i eCk (n := n + 4) hi2
      rw [List.take_add_one, List.getElem?_eq_getElem hi2] at en ⊢
      generalize cs[i] = c at hdc gk hup en ⊢
      rw [show (some c : Option Ck).toList = [c] from rfl] at en ⊢
      rw [← en]
      generalize n + 4 + ((cs.take i).flatMap eCk).length = m at rd5 hdc ⊢
      have cl := gk.len
      obtain ⟨dr5, er5⟩ := rd5.i
      have ha5 := x5 _ _ ha nar
      have htd5 := x5 _ _ htd ntd
      have kx : ∀ {H6 : Hp}, Ex H5 H6 r → H6 a = some (.ins C dx [("dims", .ref td), ("attrs", v2)]) ∧ H6 td = some (.tup xs) ∧ H6 pl = some (.lst ((ds.map mx).map V.int)) ∧ H6 pc = some (.lst ws) := fun y => ⟨y _ _ ha5 nar, y _ _ htd5 ntd, y _ _ epl5 nplr, y _ _ epc5 npcr⟩
      refine ⟨_, rfl, r, CO, dr5, _, .int (m : Int), rfl, er5, T.cl, T.na _ (by decide +kernel), rfl, ?_⟩
      refine ⟨_, rfl, a, C, dx, _, .ref td, rfl, ha5, S.cl, n1, rfl, td, rfl, ⟨_, SqT.of htd5⟩, fun D nD => lc_tup (xs := xs) (fun j H6 => Ex H5 H6 r ∧ RdAt CO H6 r lo os (m + (((c.c ++ [c.o, c.l]).take j).flatMap w4).length) ∧ H6 D = some (.lst ((c.c.take j).map V.int))) ?_ ?_ ?_ ?_⟩
      · exact ⟨Same.ex (same_new nD), rd5.same (same_new nD), upd_same⟩
      · rintro j H6 hj ⟨x6, _⟩
        exact SqT.of (kx x6).2.1
      · rintro j x H6 hx ⟨x6, rd6, eD⟩
        have hj : j < c.c.length := by
          rw [cl, ← hxl]
          exact (List.getElem?_eq_some_iff.mp hx).1
        have hj2 : j < (c.c ++ [c.o, c.l]).length := by
          rw [List.length_append]
          omega
        refine ⟨rfl, ?_⟩
        dsimp only [tYes]
        rw [if_pos rfl]
        have hdj := at_i (f := w4) (l := c.c ++ [c.o, c.l]) hdc hj2
        have nDr : D ≠ r := fun z => by rw [z, er5] at nD; cases nD
        have b := gk.ix j hj (cl ▸ hj)
        have b2 := mx_le (g.d _ (List.getElem_mem (cl ▸ hj : j < ds.length)))
        have ej : (c.c ++ [c.o, c.l])[j] = c.c[j] := List.getElem_append_left hj
        have en2 := len_i w4 (n := m) hj2
        rw [ej] at hdj en2
        obtain ⟨dr6, er6⟩ := rd6.i
        refine ⟨_, rfl, r, dr6, _, rfl, er6, rfl, r, lo, os, _, c.c[j], _, rfl, rd6, hdj, b.1, by omega, fun H7 x7 rd7 => ⟨_, x7 _ _ eD nDr, ?_, ?_, ?_, ?_⟩⟩
        · rw [List.length_map, List.length_take]
          exact small1000 (by omega)
        · intro z o e nz
          rw [upd_ne (fun y => by rw [y, nD] at e; cases e)]
          exact x7 _ _ (x6 _ _ e nz) nz
        · rw [← en2]
          obtain ⟨dr7, er7⟩ := rd7.i
          exact ⟨⟨dr7, by rw [upd_ne nDr.symm]; exact er7⟩, by rw [upd_ne (ne_of_none rd5.o nD)]; exact rd7.o, rd7.le⟩
        · rw [upd_same, List.take_add_one, List.getElem?_eq_getElem hj, List.map_append]
          rfl
      · rintro H6 ⟨x6, rd6, eD⟩
        rw [hxl, ← cl, List.take_length] at eD
        rw [hxl, ← cl, List.take_left] at rd6
        obtain ⟨ha6, htd6, epl6, epc6⟩ := kx x6
        refine ⟨D, _, rfl, .inl ⟨.inl (.inl eD), fun t nt => ?_⟩⟩
        have s7 := same_new (o := .tup (c.c.map V.int)) nt
        have hl : (c.c.map V.int).length = ((ds.map mx).map V.int).length := by rw [List.length_map, List.length_map, List.length_map, cl]
        refine ⟨_, rfl, _, rfl, t, pl, _, _, rfl, ⟨SqT.of upd_same, .inl (.inl (s7 _ _ epl6))⟩, fun D2 nD2 => lc_it (walk_zipTL hl) (fun j H8 => Same (upd H6 t (.tup (c.c.map V.int))) H8 ∧ H8 D2 = some (.lst ((List.replicate j true).map V.bl))) ⟨same_new nD2, upd_same⟩ ?_ ?_ ?_⟩
        · rintro j H8 hj ⟨s8, _⟩
          exact ⟨SqT.of (s8 _ _ upd_same), .inl (.inl (s8 _ _ (s7 _ _ epl6)))⟩
        · rintro j x H8 H8' hj ⟨s8, e8⟩ ⟨T2, x1, x2, rfl, nT, rfl, f1, f2⟩
          rw [List.length_map] at hj
          have hj3 : j < ds.length := cl ▸ hj
          have f1 : (c.c.map V.int)[j]? = some x1 := f1
          have f2 : ((ds.map mx).map V.int)[j]? = some x2 := f2
          rw [List.getElem?_map, List.getElem?_eq_getElem hj] at f1
          rw [List.getElem?_map, List.getElem?_map, List.getElem?_eq_getElem hj3] at f2
          obtain rfl := Option.some.inj f1
          obtain rfl := Option.some.inj f2
          have b := gk.ix j hj hj3
          refine ⟨T2, _, rfl, SqT.of upd_same, rfl, _, _, rfl, _, _, rfl, rfl, rfl, ?_⟩
          dsimp only [tYes]
          rw [if_pos rfl]
          refine ⟨_, rfl, _, rfl, _, _, rfl, rfl, _, same_new nT _ _ e8, ?_, ?_, ?_⟩
          · rw [List.length_map, List.length_replicate]
            exact small1000 (by omega)
          · intro z o e
            rw [upd_ne (fun y => by rw [y, nD2] at e; cases e)]
            exact same_new nT _ _ (s8 _ _ e)
          · have y : (fun i j : Int => V.bl (decide (i ≤ j))) c.c[j] (mx ds[j]) = V.bl true := congrArg V.bl (decide_eq_true b.2)
            rw [upd_same, y, List.replicate_succ', List.map_append]
            rfl
        · rintro H8 ⟨s8, e8⟩
          refine ⟨D2, _, rfl, .inl (.inl e8), ?_⟩
          rw [show (List.replicate (c.c.map V.int).length true).all id = true from by rw [List.all_eq_true]; exact fun z hz => (List.eq_of_mem_replicate hz)]
          have s68 : Same H6 H8 := s7.trans s8
          have x58 : Ex H5 H8 r := x6.same s68
          have rd8 := rd6.same s68
          obtain ⟨ha8, htd8, epl8, epc8⟩ := kx x58
          have et8 : H8 t = some (.tup (c.c.map V.int)) := s8 _ _ upd_same
          refine ⟨true, rfl, iteF ⟨_, rfl, !ws.isEmpty, .inl ⟨ws, .inl (.inl epc8), rfl⟩, andF (fun hb k => ?_) (iteF ?_)⟩⟩
          · have hp : 0 < i := by
              rcases Nat.eq_zero_or_pos i with z | z
              · have : ws = [] := List.eq_nil_of_length_eq_zero (by omega)
                rw [this] at hb
                cases hb
              · exact z
            obtain ⟨c', hc', hlt⟩ := hup hp
            obtain ⟨y, hy, cy⟩ := al.2 _ _ hc'
            obtain ⟨b', u', rfl, f1, f2⟩ := cy.ex x58 rd5
            refine ⟨_, rfl, 1, rfl, pc, ws, -1, .ref b', rfl, rfl, .inl (.inl epc8), atI_neg1 (by rw [show ws.length - 1 = i - 1 from by omega]; exact hy), b', _, 0, .ref u', rfl, rfl, SqT.of f1, rfl, _, rfl, u', t, c'.c, c.c, rfl, rfl, SqT.of f2, SqT.of et8, _, rfl, ?_⟩
            rw [hlt]
            exact k
          · obtain ⟨dr8, er8⟩ := rd8.i
            have hdc2 : os.drop m = c.c.flatMap w4 ++ (w4 c.o ++ (w4 c.l ++ ((cs.drop (i + 1)).flatMap eCk ++ rest))) := by
              rw [hdc]
              unfold eCk
              rw [List.flatMap_append]
              simp only [List.append_assoc, List.flatMap_cons, List.flatMap_nil, List.append_nil, List.nil_append]
            have hdo := drop_add' hdc2
            have hdl := drop_add' hdo
            refine ⟨_, rfl, r, dr8, _, rfl, er8, rfl, r, lo, os, _, c.o, _, rfl, rd8, hdo, gk.o.1, gk.o.2, fun H9 x9 rd9 => ?_⟩
            obtain ⟨dr9, er9⟩ := rd9.i
            have x59 := x58.trans x9
            refine ⟨_, rfl, .inl ⟨rfl, _, .inl (.inl (kx x59).2.2.2)⟩, _, rfl, _, rfl, _, rfl, r, dr9, _, rfl, er9, rfl, r, lo, os, _, c.l, _, rfl, rd9, hdl, gk.l.1, gk.l.2, fun H10 x10 rd10 => ⟨(by show 3 ≤ sizeLine; decide), fun t2 nt2 => ?_⟩⟩
            have x510 := x59.trans x10
            obtain ⟨ha10, htd10, epl10, epc10⟩ := kx x510
            have s11 := same_new (o := .tup [.ref t, .int c.o, .int c.l]) nt2
            have ntr : t ≠ r := ne_of et8 er8 (by intro z; cases z)
            have et10 : H10 t = some (.tup (c.c.map V.int)) := x10 _ _ (x9 _ _ et8 ntr) ntr
            have epc11 := s11 _ _ epc10
            refine ⟨pc, ws, .ref t2, rfl, rfl, epc11, big (by omega), _, _, _, _, ws ++ [.ref t2], rfl, fun z o e nz => ?_, ?_, ?_, upd_same, ?_⟩
            · rw [upd_ne (fun y => by rw [y, npcH] at e; cases e)]
              exact s11 _ _ (x510 _ _ (x5 _ _ e nz) nz)
            · have em : m + (c.c.flatMap w4).length + (w4 c.o).length + (w4 c.l).length = m + (eCk c).length := by
                unfold eCk
                rw [List.flatMap_append, List.length_append]
                show _ = m + (_ + (w4 c.o ++ (w4 c.l ++ [])).length)
                rw [List.length_append, List.length_append]
                show _ = m + (_ + (_ + (_ + 0)))
                omega
              have rd11 := rd10.same s11
              have e4 : m + (c.c.flatMap w4).length + 4 + 4 = m + (eCk c).length := em
              rw [e4] at rd11
              obtain ⟨dr11, er11⟩ := rd11.i
              exact ⟨⟨dr11, by rw [upd_ne npcr.symm]; exact er11⟩, by rw [upd_ne (ne_of_none rd.o npcH)]; exact rd11.o, rd11.le⟩
            · rw [upd_ne (ne_of_none epl npc)]
              exact s11 _ _ epl10
            · have kt := kt_upd (ys := ws ++ [.ref t2]) epc11
              exact All.push (al.imp fun y c h => ((h.ex x510 rd5).same s11).kt kt) ⟨t2, t, rfl, kt _ _ upd_same (fun _ z => nomatch z), kt _ _ (s11 _ _ et10) (fun _ z => nomatch z)⟩
    · rintro σ H5 ⟨y4, y5, y6, y7, ws, rfl, x5, rd5, epl5, epc5, al⟩
      rw [show (cs.length : Int).toNat = cs.length from by omega, List.take_length] at rd5 al
      refine ⟨_, rfl, pc, ws, rfl, .inl ⟨.inl (.inl epc5), fun t nt => ?_⟩⟩
      have s6 := same_new (o := .tup ws) nt
      refine q _ _ (x5.same s6) ?_ ⟨t, ws, rfl, upd_same, al.imp fun y c h => h.same s6⟩
      have := rd5.same s6
      have el : n + (eCs cs).length = n + 4 + (cs.flatMap eCk).length := by
        unfold eCs
        rw [List.length_append]
        show n + (4 + _) = _
        omega
      rw [el]
      exact this
end
end K2

namespace K2
open PySem L2
structure GAr (r : Ar) : Prop where
  nm : r.n ∈ NMS
  sh : GSh r.ds r.ts
  cs : GCs r.ds r.cs
structure GAs (as : List Ar) : Prop where
  len : as.length ≤ 1000000
  ar : ∀ r ∈ as, GAr r
  up : ∀ (i : Nat) (h : i + 1 < as.length), as[i].n.cps.toList < as[i + 1].n.cps.toList
theorem ArAt.ex {CO C : Addr} {H H1 : Hp} {r lo : Addr} {os : List Int} {n : Nat} {x : V} {c : Ar} (h : ArAt H C x c) (e : Ex H H1 r) (rd : RdAt CO H r lo os n) : ArAt H1 C x c := by
  obtain ⟨a, u, v, e1, e2, e3, ⟨b, xs, f1, f2, f3⟩⟩ := h
  obtain ⟨dr, er⟩ := rd.i
  exact ⟨a, u, v, e1, e _ _ e2 (ne_of e2 er (by intro z; cases z)), e3.ex e rd, b, xs, f1, e _ _ f2 (ne_of f2 er (by intro z; cases z)), f3.imp fun _ _ z => z.ex e rd⟩
theorem TupAt.exC {CO : Addr} {H H1 : Hp} {r lo : Addr} {os : List Int} {n : Nat} {x : V} {cs : List Ck} (h : TupAt H (CkAt H) x cs) (e : Ex H H1 r) (rd : RdAt CO H r lo os n) : TupAt H1 (CkAt H1) x cs := by
  obtain ⟨b, xs, f1, f2, f3⟩ := h
  obtain ⟨dr, er⟩ := rd.i
  exact ⟨b, xs, f1, e _ _ f2 (ne_of f2 er (by intro z; cases z)), f3.imp fun _ _ z => z.ex e rd⟩
def eAs (as : List Ar) : List Int := w4 (as.length : Int) ++ as.flatMap eAr
section
variable {P : Program} {w : World} {K : PySem.W.Frag} {mg : Str → Option Value} {base : Heap}
def spRAs (CO C : Addr) : Sp := fun vs H Q _ => ∃ (r lo : Addr) (os rest : List Int) (n : Nat) (as : List Ar), vs = [.ref r] ∧ RdAt CO H r lo os n ∧ os.drop n = eAs as ++ rest ∧ GAs as ∧
  ∀ H' t, Ex H H' r → RdAt CO H' r lo os (n + (eAs as).length) → TupAt H' (ArAt H' C) t as → Q t H'
theorem scRAs : FnScope ["reader", "arrays", "_", "first", "name", "shape"] ["reader"] (defScope sReadArrays) := ⟨rfl, rfl, rfl, by decide +kernel, rfl, by decide +kernel, by decide +kernel⟩
theorem ok_ras {f fN fS fC CO C : Addr} {fd fdN fdS fdC : FuncData} (F : Fun K "read_arrays" "read_arrays" sReadArrays f fd) (M : Nm mg) (Z : RF P w K mg base CO)
    (GN : FnOk P w K mg base CX0 3 fN fdN ["reader"] (spRN CO)) (kN : PySem.W.keepIn K (.ref fN) = true) (bN : Binds K fdN ["reader"] []) (gN : mg "read_name" = some (.ref fN))
    (GS : FnOk P w K mg base CX0 5 fS fdS ["reader"] (spRS CO C)) (kS : PySem.W.keepIn K (.ref fS) = true) (bS : Binds K fdS ["reader"] []) (gS : mg "read_shape" = some (.ref fS))
    (GC : FnOk P w K mg base CX0 3 fC fdC ["reader", "shape"] (spRC CO C)) (kC : PySem.W.keepIn K (.ref fC) = true) (bC : Binds K fdC ["reader", "shape"] []) (gC : mg "read_chunks" = some (.ref fC)) : FnOk P w K mg base CX0 6 f fd ["reader"] (spRAs CO C) := by
  have G4 := Z.G4
  have T := Z.T
  refine F.ok scRAs (fun vs H Q E h => ?_) (fun cdv A outer s H vs Q E hr h => ?_)
  · obtain ⟨r, lo, os, rest, n, as, rfl, _⟩ := h
    rfl
  · obtain ⟨r, lo, os, rest, n, as, rfl, rd, hd, g, q⟩ := h
    have hr2 := hr.mono (j := 2) (by decide)
    have hr3 := hr.mono (j := 3) (by decide)
    refine ⟨_, pss_cons (ps_set (i := 1) scRAs.nd rfl (.inl rfl) (pe_lst pa_nil))
      (pss_cons (ps_for PassesOwn.never rfl (pi_range1 (by rfl) M.range (pa_cons (pe_meth0 (pv 0) T.cl Z.m4 G4 hr2 Z.b4 .nil pass0) pa_nil)) (pg_name (i := 2) scRAs.nd rfl (.inl rfl))
        (pss_cons (ps_set (i := 3) scRAs.nd rfl (.inl rfl) (pe_fld (pv 0) rfl))
        (pss_cons (ps_set (i := 4) scRAs.nd rfl (.inl rfl) (pe_call GN hr3 (by rfl) gN kN bN .nil pass0 (pa_cons (pv 0) pa_nil)))
        (pss_cons (ps_if (PW.pt (pw_and (pt_truth (pv 1) (by intro _; rfl)) (pw_and1 (pt_cmpR op_ge_str (pe_ix ix_tup (pe_ix ix_list (pv 1) (pe_un un_neg pe_int) (fun _ _ => rfl)) pe_int (fun _ _ => rfl)) (pv 4) (nomark _))))) pss_dead pss_nil)
        (pss_cons (ps_set (i := 5) scRAs.nd rfl (.inl rfl) (pe_call GS hr (by rfl) gS kS bS .nil pass0 (pa_cons (pv 0) pa_nil)))
        (pss_one (ps_expr (pe_bm PySem.F.plainAttrs_list PySem.F.slot_list_append PySem.F.type_list_append mt_append (pv 1) (pa_cons (pe_tup (pa_cons (pv 4) (pa_cons (pv 5) (pa_cons (pe_call GC hr3 (by rfl) gC kC bC .nil pass0 (pa_cons (pv 0) (pa_cons (pv 5) pa_nil))) pa_nil)))) pa_nil)))))))))
      (pss_one (ps_ret (pe_callTy call_tuple_of (by rfl) M.tuple (by decide +kernel) (pa_cons (pv 1) pa_nil))))), ?_⟩
    refine ⟨Nat.zero_le _, fun pc npc => ?_⟩
    have s3 : Same H (upd H pc (.lst [])) := same_new npc
    have rd3 := rd.same s3
    obtain ⟨dr, er⟩ := rd3.i
    have hd1 : os.drop n = w4 (as.length : Int) ++ (as.flatMap eAr ++ rest) := by
      rw [hd]
      unfold eAs
      simp only [List.append_assoc]
    have gl := g.len
    have npcr : pc ≠ r := fun z => by
      obtain ⟨dr2, er2⟩ := rd.i
      rw [z, er2] at npc
      cases npc
    refine ⟨_, rfl, r, dr, _, rfl, er, rfl, r, lo, os, _, (as.length : Int), n, rfl, rd3, hd1, by omega, by omega, fun H4 x4 rd4 => ?_⟩
    have hd2' : os.drop (n + 4) = as.flatMap eAr ++ rest := drop_add' hd1
    refine ⟨(as.length : Int), rfl, by omega, by omega, for_range (lo := 0) (n := (as.length : Int).toNat) (fun i σ H5 => ∃ y2 y3 y4 y5 ws, σ = [some (.ref r), some (.ref pc), y2, y3, y4, y5] ∧ Ex H H5 r ∧ RdAt CO H5 r lo os (n + 4 + ((as.take i).flatMap eAr).length) ∧ H5 pc = some (.lst ws) ∧ All (ArAt H5 C) ws (as.take i)) ?_ ?_ ?_⟩
    · exact ⟨_, _, _, _, [], rfl, (Same.ex s3).trans x4, rd4, x4 _ _ upd_same npcr, All.nil⟩
    · rintro i σ H5 hi ⟨y2, y3, y4, y5, ws, rfl, x5, rd5, epc5, al⟩
      have hi2 : i < as.length := by omega
      have hda := at_i hd2' hi2
      have ga := g.ar _ (List.getElem_mem hi2)
      have hup : 0 < i → ∃ c', (as.take i)[i - 1]? = some c' ∧ c'.n.cps.toList < as[i].n.cps.toList := fun h => by
        refine ⟨as[i - 1], ?_, ?_⟩
        · rw [List.getElem?_take_of_lt (by omega), List.getElem?_eq_getElem (by omega)]
        · have := g.up (i - 1) (by omega)
          have e : i - 1 + 1 = i := by omega
          simp only [e] at this
          exact this
      have xl := al.1
      rw [List.length_take] at xl
      have en := len_i eAr (n := n + 4) hi2
      rw [List.take_add_one, List.getElem?_eq_getElem hi2] at en ⊢
      generalize as[i] = c at hda ga hup en ⊢
      rw [show (some c : Option Ar).toList = [c] from rfl] at en ⊢
      rw [← en]
      generalize n + 4 + ((as.take i).flatMap eAr).length = m at rd5 hda ⊢
      have hda1 : os.drop m = wn c.n ++ (eSh c.ds c.ts ++ (eCs c.cs ++ ((as.drop (i + 1)).flatMap eAr ++ rest))) := by
        rw [hda]
        unfold eAr
        simp only [List.append_assoc]
      have hda2 := drop_add' hda1
      have hda3 := drop_add' hda2
      obtain ⟨dr5, er5⟩ := rd5.i
      refine ⟨_, rfl, r, CO, dr5, _, .int (m : Int), rfl, er5, T.cl, T.na _ (by decide +kernel), rfl, ?_⟩
      refine ⟨_, rfl, r, lo, os, _, m, c.n, rfl, rd5, hda1, ga.nm, fun H6 x6 rd6 => ?_⟩
      have epc6 := x6 _ _ epc5 npcr
      refine ⟨_, rfl, !ws.isEmpty, .inl ⟨ws, .inl (.inl epc6), rfl⟩, andF (fun hb k => ?_) (iteF ?_)⟩
      · have hp : 0 < i := by
          rcases Nat.eq_zero_or_pos i with z | z
          · have : ws = [] := List.eq_nil_of_length_eq_zero (by omega)
            rw [this] at hb
            cases hb
          · exact z
        obtain ⟨c', hc', hlt⟩ := hup hp
        obtain ⟨y, hy, cy⟩ := al.2 _ _ hc'
        obtain ⟨b', u', v', rfl, f1, _⟩ := cy.ex x6 rd5
        refine ⟨_, rfl, 1, rfl, pc, ws, -1, .ref b', rfl, rfl, .inl (.inl epc6), atI_neg1 (by rw [show ws.length - 1 = i - 1 from by omega]; exact hy), b', _, 0, .str c'.n, rfl, rfl, SqT.of f1, rfl, _, rfl, c'.n, c.n, rfl, rfl, _, rfl, ?_⟩
        rw [decide_eq_true hlt]
        exact k
      · refine ⟨_, rfl, r, lo, os, _, _, c.ds, c.ts, rfl, rd6, hda2, ga.sh, fun H7 v x7 rd7 sh7 => ?_⟩
        have epc7 := x7 _ _ epc6 npcr
        refine ⟨_, rfl, .inl ⟨rfl, _, .inl (.inl epc7)⟩, _, rfl, _, rfl, _, rfl, _, rfl, r, lo, v, os, _, _, c.ds, c.ts, c.cs, rfl, rd7, hda3, sh7, ga.sh, ga.cs, fun H8 t x8 rd8 ck8 => ⟨(by show 3 ≤ sizeLine; decide), fun t2 nt2 => ?_⟩⟩
        have x58 := x6.trans (x7.trans x8)
        have s11 := same_new (o := .tup [.str c.n, v, t]) nt2
        have epc11 := s11 _ _ (x8 _ _ epc7 npcr)
        refine ⟨pc, ws, .ref t2, rfl, rfl, epc11, big (by omega), _, _, _, _, ws ++ [.ref t2], rfl, fun z o e nz => ?_, ?_, upd_same, ?_⟩
        · rw [upd_ne (fun y => by rw [y, npc] at e; cases e)]
          exact s11 _ _ (x58 _ _ (x5 _ _ e nz) nz)
        · have em : m + (wn c.n).length + (eSh c.ds c.ts).length + (eCs c.cs).length = m + (eAr c).length := by
            unfold eAr
            rw [List.length_append, List.length_append]
            omega
          have rd11 := rd8.same s11
          rw [em] at rd11
          obtain ⟨dr11, er11⟩ := rd11.i
          exact ⟨⟨dr11, by rw [upd_ne npcr.symm]; exact er11⟩, by rw [upd_ne (ne_of_none rd.o npc)]; exact rd11.o, rd11.le⟩
        · have kt := kt_upd (ys := ws ++ [.ref t2]) epc11
          exact All.push (al.imp fun y c h => ((h.ex x58 rd5).same s11).kt kt) ⟨t2, v, t, rfl, kt _ _ upd_same (fun _ z => nomatch z), ((sh7.ex x8 rd7).same s11).kt kt, ((ck8.same s11 fun _ _ z => z.same s11).kt kt fun _ _ z => z.kt kt)⟩
    · rintro σ H5 ⟨y2, y3, y4, y5, ws, rfl, x5, rd5, epc5, al⟩
      rw [show (as.length : Int).toNat = as.length from by omega, List.take_length] at rd5 al
      refine ⟨_, rfl, pc, ws, rfl, .inl ⟨.inl (.inl epc5), fun t nt => ?_⟩⟩
      have s6 := same_new (o := .tup ws) nt
      refine q _ _ (x5.same s6) ?_ ⟨t, ws, rfl, upd_same, al.imp fun y c h => h.same s6⟩
      have := rd5.same s6
      have el : n + (eAs as).length = n + 4 + (as.flatMap eAr).length := by
        unfold eAs
        rw [List.length_append]
        show n + (4 + _) = _
        omega
      rw [el]
      exact this
end
end K2

namespace K2
open PySem L2
theorem sm_lt : ∀ (os : List Int) (a : Int × Int), 0 ≤ a.1 → a.1 < 65521 → 0 ≤ a.2 → a.2 < 65521 → (0 ≤ (os.foldl sm a).1 ∧ (os.foldl sm a).1 < 65521) ∧ 0 ≤ (os.foldl sm a).2 ∧ (os.foldl sm a).2 < 65521
  | [], a, h1, h2, h3, h4 => ⟨⟨h1, h2⟩, h3, h4⟩
  | o :: os, a, _, _, _, _ => sm_lt os (sm a o) (Int.emod_nonneg _ (by decide)) (Int.emod_lt_of_pos _ (by decide)) (Int.emod_nonneg _ (by decide)) (Int.emod_lt_of_pos _ (by decide))
theorem sumO_lt (os : List Int) : 0 ≤ sumO os ∧ sumO os < 4294967296 := by
  have h := sm_lt os (1, 0) (by decide) (by decide) (by decide) (by decide)
  unfold sumO
  dsimp only
  omega
structure GVe (up : Int) (r : Ve) : Prop where
  lo : 1 ≤ r.no
  hi : r.no ≤ up - 1
  as : GAs r.as
structure GRt (up da : Int) (vs : List Ve) : Prop where
  u : 1 ≤ up ∧ up < 4294967296
  d : 0 ≤ da ∧ da < 4294967296
  len : vs.length ≤ 1000000
  ve : ∀ r ∈ vs, GVe up r
  asc : ∀ (i : Nat) (h : i + 1 < vs.length), vs[i].no < vs[i + 1].no
theorem eVe_eq (r : Ve) : eVe r = w4 r.no ++ eAs r.as := by
  unfold eVe eAs
  rw [List.append_assoc]
theorem VeAt.ex {CO C : Addr} {H H1 : Hp} {r lo : Addr} {os : List Int} {n : Nat} {x : V} {c : Ve} (h : VeAt H C x c) (e : Ex H H1 r) (rd : RdAt CO H r lo os n) : VeAt H1 C x c := by
  obtain ⟨a, v, e1, e2, ⟨b, xs, f1, f2, f3⟩⟩ := h
  obtain ⟨dr, er⟩ := rd.i
  exact ⟨a, v, e1, e _ _ e2 (ne_of e2 er (by intro z; cases z)), b, xs, f1, e _ _ f2 (ne_of f2 er (by intro z; cases z)), f3.imp fun _ _ z => z.ex e rd⟩
structure Ct6 (mg : Str → Option Value) : Prop where
  gn : ∃ v, mg "GREATEST_NUMBER" = some v ∧ RelV (.int 4294967295) v
section
variable {P : Program} {w : World} {K : PySem.W.Frag} {mg : Str → Option Value} {base : Heap}
def spDR (CR C : Addr) : Sp := fun vs H Q _ => ∃ (l0 : Addr) (up da : Int) (rs : List Ve), vs = [.ref l0] ∧ H l0 = some (.lst ((eRt up da rs ++ w4 (sumO (eRt up da rs))).map V.int)) ∧ GRt up da rs ∧
  ∀ H' v, Same H H' → RtAt H' CR C v up da rs → Q v H'
theorem scDR : FnScope ["octets", "reader", "octet", "upcoming", "data", "versions", "_", "earlier", "number", "first", "total"] ["octets"] (defScope sDecodeRoot) := ⟨rfl, rfl, rfl, by decide +kernel, rfl, by decide +kernel, by decide +kernel⟩
theorem ok_dr {f fO fE fA fU fR CO CR C : Addr} {fd fdO fdE fdA fdU fdR : FuncData} (F : Fun K "decode_root" "decode_root" sDecodeRoot f fd) (M : Nm mg) (Y : Ct3 K mg) (Y6 : Ct6 mg) (Z : RF P w K mg base CO) (TO : KC K CO fO ORf)
    (GO : FnOk P w K mg base CX0 1 fO fdO ["self", "octets"] (spORI K CO)) (bO : Binds K fdO ["self", "octets"] []) (gO : mg "OctetReader" = some (.ref CO))
    (GE : FnOk P w K mg base CX0 1 fE fdE ["self"] (spEnd CO)) (bE : Binds K fdE ["self"] []) (mE : Meth K CO "is_at_end" fE)
    (GA : FnOk P w K mg base CX0 6 fA fdA ["reader"] (spRAs CO C)) (kA : PySem.W.keepIn K (.ref fA) = true) (bA : Binds K fdA ["reader"] []) (gA : mg "read_arrays" = some (.ref fA))
    (GU : FnOk P w K mg base CX0 1 fU fdU ["octets"] (spSum K)) (kU : PySem.W.keepIn K (.ref fU) = true) (bU : Binds K fdU ["octets"] []) (gU : mg "sum_of" = some (.ref fU))
    (R : KC K CR fR RHf) (GR : FnOk P w K mg base CX0 1 fR fdR ["self", "upcoming", "data", "versions"] (RIn CR C)) (bR : Binds K fdR ["self", "upcoming", "data", "versions"] []) (gR : mg "Root" = some (.ref CR)) : FnOk P w K mg base CX0 7 f fd ["octets"] (spDR CR C) := by
  have G4 := Z.G4
  have Gi := Z.Gi
  have Gf := Z.GO
  have T := Z.T
  refine F.ok scDR (fun vs H Q E h => ?_) (fun cdv A outer s H vs Q E hr h => ?_)
  · obtain ⟨l0, up, da, rs, rfl, _⟩ := h
    rfl
  · obtain ⟨l0, up, da, rs, rfl, h0, g, q⟩ := h
    have hr1 := hr.mono (j := 1) (by decide)
    have hr2 := hr.mono (j := 2) (by decide)
    have hr3 := hr.mono (j := 3) (by decide)
    obtain ⟨kf, mf, hf⟩ := Y.first
    obtain ⟨gv, mgv, rgv⟩ := Y6.gn
    refine ⟨_, pss_cons (ps_set (i := 1) scDR.nd rfl (.inl rfl) (pe_make TO.mkC GO hr2 (by rfl) gO bO .nil pass0 (pa_cons (pv 0) pa_nil)))
      (pss_cons (ps_for PassesOwn.never rfl (pi_tup (pe_glob (v := .ref kf) (by rfl) mf rfl)) (pg_name (i := 2) scDR.nd rfl (.inl rfl))
        (pss_one (ps_expr (pe_meth (pv 1) T.cl Z.mO Gf hr2 Z.bO .nil pass0 (pa_cons (pe_tup (pa_cons (pv 2) pa_nil)) pa_nil)))))
      (pss_cons (ps_set (i := 3) scDR.nd rfl (.inl rfl) (pe_meth (pv 1) T.cl Z.mi Gi hr3 Z.bi .nil pass0 (pa_cons pe_int (pa_cons (pe_glob (by rfl) mgv rgv) pa_nil))))
      (pss_cons (ps_set (i := 4) scDR.nd rfl (.inl rfl) (pe_meth0 (pv 1) T.cl Z.m4 G4 hr2 Z.b4 .nil pass0))
      (pss_cons (ps_set (i := 5) scDR.nd rfl (.inl rfl) (pe_lst pa_nil))
      (pss_cons (ps_for PassesOwn.never rfl (pi_range1 (by rfl) M.range (pa_cons (pe_meth0 (pv 1) T.cl Z.m4 G4 hr2 Z.b4 .nil pass0) pa_nil)) (pg_name (i := 6) scDR.nd rfl (.inl rfl))
        (Evl.pss_cut (ps_set (i := 7) scDR.nd rfl (.inl rfl) (pe_ifExp (pt_truth (pv 5) (by intro _; rfl)) (pe_ix ix_tup (pe_ix ix_list (pv 5) (pe_un un_neg pe_int) (fun _ _ => rfl)) pe_int (fun _ _ => rfl)) pe_int))
        (pss_cons (ps_set (i := 8) scDR.nd rfl (.inl rfl) (pe_meth (pv 1) T.cl Z.mi Gi hr3 Z.bi .nil pass0 (pa_cons (pe_op op_add (pv 7) pe_int) (pa_cons (pe_op op_sub (pv 3) pe_int) pa_nil))))
        (pss_one (ps_expr (pe_bm PySem.F.plainAttrs_list PySem.F.slot_list_append PySem.F.type_list_append mt_append (pv 5) (pa_cons (pe_tup (pa_cons (pv 8) (pa_cons (pe_call GA hr (by rfl) gA kA bA .nil pass0 (pa_cons (pv 1) pa_nil)) pa_nil))) pa_nil)))))))
      (pss_cons (ps_set (i := 9) scDR.nd rfl (.inl rfl) (pe_fld (pv 1) rfl))
      (pss_cons (ps_set (i := 10) scDR.nd rfl (.inl rfl) (pe_call GU hr1 (by rfl) gU kU bU .nil pass0 (pa_cons (pe_slice sl_list (pv 0) po_none (po_some (pv 9))) pa_nil)))
      (pss_cons (ps_expr (pe_meth (pv 1) T.cl Z.mi Gi hr3 Z.bi .nil pass0 (pa_cons (pv 10) (pa_cons (pv 10) pa_nil))))
      (pss_cons (ps_if (pt_not (pt_val (pe_meth0 (pv 1) T.cl mE GE hr1 bE .nil pass0))) pss_dead pss_nil)
      (pss_one (ps_ret (pe_make R.mkC GR hr2 (by rfl) gR bR .nil pass0 (pa_cons (pv 3) (pa_cons (pv 4) (pa_cons (pe_callTy call_tuple_of (by rfl) M.tuple (by decide +kernel) (pa_cons (pv 5) pa_nil)) pa_nil))))))))))))))), ?_⟩
    obtain ⟨os, hos⟩ : ∃ os, os = eRt up da rs ++ w4 (sumO (eRt up da rs)) := ⟨_, rfl⟩
    rw [← hos] at h0
    have hsum := sumO_lt (eRt up da rs)
    have hd0 : os.drop 0 = [77, 83] ++ (w4 up ++ (w4 da ++ (w4 (rs.length : Int) ++ (rs.flatMap eVe ++ w4 (sumO (eRt up da rs)))))) := by
      rw [List.drop_zero, hos]
      conv => lhs; arg 1; unfold eRt
      simp only [List.append_assoc]
    have hd2 : os.drop 2 = w4 up ++ (w4 da ++ (w4 (rs.length : Int) ++ (rs.flatMap eVe ++ w4 (sumO (eRt up da rs))))) := drop_add' hd0
    have hd6 : os.drop (2 + 4) = w4 da ++ (w4 (rs.length : Int) ++ (rs.flatMap eVe ++ w4 (sumO (eRt up da rs)))) := drop_add' hd2
    have hdA : os.drop (2 + 4 + 4) = w4 (rs.length : Int) ++ (rs.flatMap eVe ++ w4 (sumO (eRt up da rs))) := drop_add' hd6
    have hdE : os.drop (2 + 4 + 4 + 4) = rs.flatMap eVe ++ w4 (sumO (eRt up da rs)) := drop_add' hdA
    have gu := g.u
    have gd := g.d
    have gl := g.len
    refine ⟨_, rfl, fun r dr nr ndr nre => ⟨r, dr, l0, os, rfl, upd_same, .inl (.inl ?_), fun H1 lo x1 nlo rd1 => ⟨rfl, ?_⟩⟩⟩
    · rw [upd_ne (ne_of_none h0 nr), upd_ne (ne_of_none h0 ndr)]
      exact h0
    have s1 : Same H H1 := mk_same nr ndr x1
    have nl0 : l0 ≠ r := ne_of_none h0 nr
    refine ⟨kf, rfl, ⟨_, hf _⟩, for_it (walk_tup (xs := [77, 83].map V.int)) (fun i σ H2 => ∃ y2, σ = [some (.ref l0), some (.ref r), y2, none, none, none, none, none, none, none, none] ∧ Ex H1 H2 r ∧ RdAt CO H2 r lo os i) ?_ ?_ ?_ ?_⟩
    · exact ⟨none, rfl, fun _ _ e _ => e, rd1⟩
    · intro i σ H2 hi _
      exact hf _
    · rintro i x σ H2 H' hi ⟨y2, rfl, x2, rd2⟩ ⟨rfl, hx⟩
      rw [List.length_map] at hi
      rw [List.getElem?_map, List.getElem?_eq_getElem hi] at hx
      obtain rfl := Option.some.inj hx
      obtain ⟨dr2, er2⟩ := rd2.i
      refine ⟨_, rfl, r, dr2, _, rfl, er2, rfl, _, rfl, (by show 1 ≤ sizeLine; decide), fun t nt => ?_⟩
      have st := same_new (o := .tup [V.int ([77, 83] : List Int)[i]]) nt
      have ho : os.drop i = ([77, 83] : List Int)[i] :: os.drop (i + 1) := by
        have e0 : os = [77, 83] ++ (w4 up ++ (w4 da ++ (w4 (rs.length : Int) ++ (rs.flatMap eVe ++ w4 (sumO (eRt up da rs)))))) := hd0
        have hi3 : i < os.length := by
          rw [e0, List.length_append]
          omega
        rw [List.drop_eq_getElem_cons hi3]
        congr 1
        simp only [e0]
        exact List.getElem_append_left hi
      refine ⟨r, lo, t, os, os.drop (i + 1), [([77, 83] : List Int)[i]], ([77, 83] : List Int)[i], i, rfl, rd2.same st, ho, fun H3 x3 => SqT.of ?_, List.mem_singleton.mpr rfl, fun H3 x3 rd3 => ⟨_, rfl, fun a o e n => x3 _ _ (st _ _ (x2 _ _ e n)) n, rd3⟩⟩
      exact x3 _ _ upd_same (fun z => by rw [z, er2] at nt; cases nt)
    · rintro σ H2 ⟨y2, rfl, x2, rd2⟩
      obtain ⟨dr2, er2⟩ := rd2.i
      have rd2' : RdAt CO H2 r lo os 2 := rd2
      refine ⟨_, rfl, r, dr2, _, rfl, er2, rfl, r, lo, os, _, up, 1, 4294967295, 2, rfl, rd2', hd2, by omega, by omega, by omega, by omega, fun H3 x3 rd3 => ?_⟩
      obtain ⟨dr3, er3⟩ := rd3.i
      refine ⟨_, rfl, r, dr3, _, rfl, er3, rfl, r, lo, os, _, da, 2 + 4, rfl, rd3, hd6, gd.1, gd.2, fun H4 x4 rd4 => ?_⟩
      refine ⟨Nat.zero_le _, fun pc npc => ?_⟩
      have x14 : Ex H1 H4 r := x2.trans (x3.trans x4)
      have s5 := same_new (o := .lst []) npc
      have rd5 := rd4.same s5
      obtain ⟨dr5, er5⟩ := rd5.i
      have npcr : pc ≠ r := fun z => by
        obtain ⟨dr4, er4⟩ := rd4.i
        rw [z, er4] at npc
        cases npc
      have npcH1 : H1 pc = none := x14.free rd4 npc
      refine ⟨_, rfl, r, dr5, _, rfl, er5, rfl, r, lo, os, _, (rs.length : Int), 2 + 4 + 4, rfl, rd5, hdA, by omega, by omega, fun H6 x6 rd6 => ?_⟩
      refine ⟨(rs.length : Int), rfl, by omega, by omega, for_range (lo := 0) (n := (rs.length : Int).toNat) (fun i σ H7 => ∃ y6 y7 y8 ws, σ = [some (.ref l0), some (.ref r), y2, some (.int up), some (.int da), some (.ref pc), y6, y7, y8, none, none] ∧ Ex H1 H7 r ∧ RdAt CO H7 r lo os (2 + 4 + 4 + 4 + ((rs.take i).flatMap eVe).length) ∧ H7 pc = some (.lst ws) ∧ All (VeAt H7 C) ws (rs.take i)) ?_ ?_ ?_⟩
      · exact ⟨_, _, _, [], rfl, (x14.same s5).trans x6, rd6, x6 _ _ upd_same npcr, All.nil⟩
      · rintro i σ H7 hi ⟨y6, y7, y8, ws, rfl, x7, rd7, epc7, al⟩
        have hi2 : i < rs.length := by omega
        have hdv := at_i hdE hi2
        have gv := g.ve _ (List.getElem_mem hi2)
        have hup : 0 < i → ∃ c', c' ∈ rs ∧ (rs.take i)[i - 1]? = some c' ∧ c'.no < rs[i].no := fun h => by
          refine ⟨rs[i - 1], List.getElem_mem _, ?_, ?_⟩
          · rw [List.getElem?_take_of_lt (by omega), List.getElem?_eq_getElem (by omega)]
          · have := g.asc (i - 1) (by omega)
            have e : i - 1 + 1 = i := by omega
            simp only [e] at this
            exact this
        have xl := al.1
        rw [List.length_take] at xl
        have ew : ws.length - 1 = i - 1 := by omega
        have en := len_i eVe (n := 2 + 4 + 4 + 4) hi2
        rw [List.take_add_one, List.getElem?_eq_getElem hi2] at en ⊢
        generalize rs[i] = c at hdv gv hup en ⊢
        rw [show (some c : Option Ve).toList = [c] from rfl] at en ⊢
        rw [← en]
        generalize 2 + 4 + 4 + 4 + ((rs.take i).flatMap eVe).length = m at rd7 hdv ⊢
        rw [eVe_eq, List.append_assoc] at hdv
        have hdv2 := drop_add' hdv
        refine ⟨fun σ H8 => ∃ e : Int, 0 ≤ e ∧ e + 1 ≤ c.no ∧ σ = [some (.ref l0), some (.ref r), y2, some (.int up), some (.int da), some (.ref pc), some (.int (0 + (i : Int))), some (.int e), y8, none, none] ∧ H8 = H7, ?_, ?_⟩
        · refine ⟨_, rfl, !ws.isEmpty, .inl ⟨ws, .inl (.inl epc7), rfl⟩, ?_⟩
          rcases Nat.eq_zero_or_pos i with z | hp
          · have : ws = [] := List.eq_nil_of_length_eq_zero (by omega)
            subst this
            exact iteBF rfl ⟨0, by decide, gv.lo, rfl, rfl⟩
          · obtain ⟨c', hm', hc', hlt⟩ := hup hp
            obtain ⟨y, hy, cy⟩ := al.2 _ _ hc'
            obtain ⟨b', u', rfl, f1, _⟩ := cy
            have hb : (!ws.isEmpty) = true := by
              cases ws with
              | nil => simp at hy
              | cons a l => rfl
            exact iteB hb ⟨_, rfl, 1, rfl, pc, ws, -1, .ref b', rfl, rfl, .inl (.inl epc7), atI_neg1 (by rw [ew]; exact hy), b', _, 0, .int c'.no, rfl, rfl, SqT.of f1, rfl, c'.no, by have := (g.ve _ hm').lo; omega, by omega, rfl, rfl⟩
        rintro σ H8 ⟨e, e0, e1, rfl, rfl⟩
        obtain ⟨dr7, er7⟩ := rd7.i
        have ghi := gv.hi
        refine ⟨_, rfl, r, dr7, _, rfl, er7, rfl, _, rfl, _, _, rfl, rfl, _, rfl, _, _, rfl, rfl, r, lo, os, _, c.no, e + 1, up - 1, m, rfl, rd7, hdv, by omega, by omega, e1, ghi, fun H9 x9 rd9 => ?_⟩
        have epc9 := x9 _ _ epc7 npcr
        refine ⟨_, rfl, .inl ⟨rfl, _, .inl (.inl epc9)⟩, _, rfl, _, rfl, r, lo, os, _, _, c.as, rfl, rd9, hdv2, gv.as, fun H10 t x10 rd10 ta => ⟨(by show 2 ≤ sizeLine; decide), fun t2 nt2 => ?_⟩⟩
        have x710 := x9.trans x10
        have s11 := same_new (o := .tup [.int c.no, t]) nt2
        have epc11 := s11 _ _ (x10 _ _ epc9 npcr)
        refine ⟨pc, ws, .ref t2, rfl, rfl, epc11, big (by omega), _, _, _, ws ++ [.ref t2], rfl, fun z o e nz => ?_, ?_, upd_same, ?_⟩
        · rw [upd_ne (fun y => by rw [y, npcH1] at e; cases e)]
          exact s11 _ _ (x710 _ _ (x7 _ _ e nz) nz)
        · have em : m + 4 + (eAs c.as).length = m + (eVe c).length := by
            rw [eVe_eq, List.length_append]
            show _ = m + (4 + _)
            omega
          have rd11 := rd10.same s11
          have rd11 : RdAt CO _ r lo os (m + 4 + (eAs c.as).length) := rd11
          rw [em] at rd11
          obtain ⟨dr11, er11⟩ := rd11.i
          exact ⟨⟨dr11, by rw [upd_ne npcr.symm]; exact er11⟩, by rw [upd_ne (ne_of_none rd1.o npcH1)]; exact rd11.o, rd11.le⟩
        · have kt := kt_upd (ys := ws ++ [.ref t2]) epc11
          exact All.push (al.imp fun y c h => ((h.ex x710 rd7).same s11).kt kt) ⟨t2, t, rfl, kt _ _ upd_same (fun _ z => nomatch z), ((ta.same s11 fun _ _ z => z.same s11).kt kt fun _ _ z => z.kt kt)⟩
      · rintro σ H7 ⟨y6, y7, y8, ws, rfl, x7, rd7, epc7, al⟩
        rw [show (rs.length : Int).toNat = rs.length from by omega, List.take_length] at rd7 al
        have el : 2 + 4 + 4 + 4 + (rs.flatMap eVe).length = (eRt up da rs).length := by
          unfold eRt
          simp only [List.length_append]
          rfl
        rw [el] at rd7
        obtain ⟨dr7, er7⟩ := rd7.i
        have h07 := x7 _ _ (s1 _ _ h0) nl0
        have ht : os.take (eRt up da rs).length = eRt up da rs := by rw [hos, List.take_left]
        have hdl : os.drop (eRt up da rs).length = w4 (sumO (eRt up da rs)) ++ [] := by rw [hos, List.drop_left, List.append_nil]
        have hll : os.length = (eRt up da rs).length + 4 := by rw [hos, List.length_append]; rfl
        refine ⟨_, rfl, r, CO, dr7, _, .int ((eRt up da rs).length : Int), rfl, er7, T.cl, T.na _ (by decide +kernel), rfl, ?_⟩
        refine ⟨_, rfl, _, rfl, _, rfl, l0, _, rfl, .inl (.inl h07), fun p np => ?_⟩
        have s8 := same_new (o := .lst ((eRt up da rs).map V.int)) np
        have ecut : cutV (os.map V.int) none (some ((eRt up da rs).length : Int)) = (eRt up da rs).map V.int := by
          unfold cutV
          rw [show HT.sIx (os.map V.int).length (os.map V.int).length (some ((eRt up da rs).length : Int)) = min (eRt up da rs).length (os.map V.int).length from HT.sIx_nat _ _ _, List.length_map, Nat.min_eq_left (by omega)]
          show ((os.map V.int).drop 0).take ((eRt up da rs).length - 0) = _
          rw [List.drop_zero, Nat.sub_zero, ← List.map_take, ht]
        rw [ecut]
        refine ⟨p, eRt up da rs, rfl, .inl (.inl upd_same), ?_⟩
        have rd8 := rd7.same s8
        obtain ⟨dr8, er8⟩ := rd8.i
        refine ⟨_, rfl, r, dr8, _, rfl, er8, rfl, _, rfl, _, rfl, r, lo, os, [], sumO (eRt up da rs), _, _, _, rfl, rd8, hdl, hsum.1, hsum.2, Int.le_refl _, Int.le_refl _, fun H9 x9 rd9 => ?_⟩
        rw [← hll] at rd9
        obtain ⟨dr9, er9⟩ := rd9.i
        refine ⟨_, rfl, r, dr9, _, rfl, er9, rfl, r, lo, os, rfl, rd9, true, rfl, iteF ?_⟩
        have x19 : Ex H1 H9 r := (x7.same s8).trans x9
        have epc9 := x9 _ _ (s8 _ _ epc7) npcr
        refine ⟨_, rfl, _, rfl, _, rfl, pc, ws, rfl, .inl ⟨.inl (.inl epc9), fun t nt => ?_⟩⟩
        intro a dxa na ndxa nae
        refine ⟨a, dxa, .int up, .int da, .ref t, rfl, upd_same, fun H11 x11 e11 => ⟨rfl, ?_⟩⟩
        have s911 : Same H9 H11 := (same_new nt).trans (mk_same na ndxa x11)
        have al9 : All (VeAt H9 C) ws rs := al.imp fun y c h => (h.same s8).ex x9 rd8
        refine q H11 _ (fun c o e => s911 _ _ (x19 _ _ (s1 _ _ e) (ne_of_none e nr))) ⟨a, dxa, .ref t, rfl, e11, t, ws, rfl, ?_, al9.imp fun y c h => h.same s911⟩
        exact mk_same na ndxa x11 _ _ upd_same
end
end K2

namespace K2
open PySem L2
theorem depth_ints : ∀ os : List Int, PyData.depthAll (os.map PyData.int) ≤ 1
  | [] => by simp [PyData.depthAll]
  | n :: r => by
    have := depth_ints r
    simp [PyData.depthAll, PyData.depth] at this ⊢
    omega
theorem lay_ints : ∀ os : List Int, PyData.canLayAll0 (os.map PyData.int) = true
  | [] => by simp [PyData.canLayAll0]
  | n :: r => by
    have := lay_ints r
    simp [PyData.canLayAll0, PyData.canLay0] at this ⊢
    exact this
theorem shp_of {ds : List PyData} (h1 : PyData.depthAll ds ≤ 1) (h : PyData.canLayAll0 ds = true) : SeqAt.shaped (.list ds) = true := by
  have h2 : PyData.depth (.list ds) ≤ 64 := by
    simp only [PyData.depth]
    omega
  show (PyData.canLay0 (.list ds) && decide (PyData.depth (.list ds) ≤ 64)) = true
  rw [Bool.and_eq_true]
  exact ⟨by simp only [PyData.canLay0]; exact h, decide_eq_true h2⟩
theorem eqv_of {ds : List PyData} (h : PyData.canLayAll0 ds = true) : PyData.eqv (.list ds) (.list ds) = true := SeqAt.eqv_refl _ (by simp only [PyData.canLay0]; exact h)
theorem dp_ints {K : PySem.W.Frag} {H : Hp} : ∀ os : List Int, DpAll K H (os.map V.int) (os.map PyData.int)
  | [] => .nil
  | n :: r => .cons (.int n) (dp_ints r)
theorem ne_ints {K : PySem.W.Frag} {H : Hp} {a b : Addr} {os : List Int} {Q : VK} (ha : H a = some (.lst (os.map V.int))) (hb : H b = some (.lst (os.map V.int))) (q : Q (.bl false) H) : rNeD K (.ref a) (.ref b) H Q := by
  refine ⟨.list (os.map PyData.int), .list (os.map PyData.int), .lst (.inl (.inl ha)) (dp_ints os), .lst (.inl (.inl hb)) (dp_ints os), shp_of (depth_ints os) (lay_ints os), shp_of (depth_ints os) (lay_ints os), ?_⟩
  rw [eqv_of (lay_ints os)]
  exact q
end K2

namespace K2
open PySem L2
/-! ### what is drawn is a good root -/
theorem nms_nodup : ((["x", "y"] : List Str) ++ (["v", "w"] : List Str)).Nodup := by decide +kernel
theorem drSh {ds : List D} {ts : List T} (h : DrSh ds ts) : GSh ds ts := by
  obtain ⟨i, i1, i2, hi⟩ := h.i
  obtain ⟨j, j1, j2, hj⟩ := h.j
  have l1 : ds.length = i := by
    have := congrArg List.length hi
    rw [List.length_map, List.length_take] at this
    have e : (["x", "y"] : List Str).length = 2 := rfl
    omega
  have l2 : ts.length = j := by
    have := congrArg List.length hj
    rw [List.length_map, List.length_take] at this
    have e : (["v", "w"] : List Str).length = 2 := rfl
    omega
  refine ⟨by omega, by omega, fun d hd => ?_, fun t ht => ?_, ?_⟩
  · have hm : d.n ∈ (["x", "y"] : List Str) := List.mem_of_mem_take (hi ▸ List.mem_map.mpr ⟨d, hd, rfl⟩)
    have g := h.d d hd
    unfold DrD at g
    refine ⟨?_, by omega, by omega, by omega, by omega, by omega⟩
    simp only [List.mem_cons, List.not_mem_nil, or_false] at hm
    rcases hm with e | e <;> (rw [e]; decide +kernel)
  · have hm : t.n ∈ (["v", "w"] : List Str) := List.mem_of_mem_take (hj ▸ List.mem_map.mpr ⟨t, ht, rfl⟩)
    refine ⟨?_, h.t t ht⟩
    simp only [List.mem_cons, List.not_mem_nil, or_false] at hm
    rcases hm with e | e <;> (rw [e]; decide +kernel)
  · rw [hi, hj]
    exact nms_nodup.sublist ((List.take_sublist _ _).append (List.take_sublist _ _))
theorem drSh_len {ds : List D} {ts : List T} (h : DrSh ds ts) : ds.length ≤ 2 ∧ ts.length ≤ 2 := by
  obtain ⟨i, i1, i2, hi⟩ := h.i
  obtain ⟨j, j1, j2, hj⟩ := h.j
  have e1 := congrArg List.length hi
  have e2 := congrArg List.length hj
  rw [List.length_map, List.length_take] at e1 e2
  omega
theorem lexLt_same : ∀ (r : List Int) (a b : List Int), HT.lexLt (r ++ a) (r ++ b) = HT.lexLt a b
  | [], _, _ => rfl
  | x :: r, a, b => by
    show (if x = x then HT.lexLt (r ++ a) (r ++ b) else _) = _
    rw [if_pos rfl, lexLt_same r a b]
theorem lexLt_app : ∀ (r s : List Int) (a b : List Int), r.length = s.length → HT.lexLt r s = true → HT.lexLt (r ++ a) (s ++ b) = true
  | [], [], _, _, _, h => by cases h
  | [], _ :: _, _, _, h, _ => by cases h
  | _ :: _, [], _, _, h, _ => by cases h
  | x :: r, y :: s, a, b, hl, h => by
    have h : (if x = y then HT.lexLt r s else decide (x < y)) = true := h
    show (if x = y then HT.lexLt (r ++ a) (s ++ b) else decide (x < y)) = true
    by_cases e : x = y
    · rw [if_pos e] at h ⊢
      exact lexLt_app r s a b (Nat.succ.inj hl) h
    · rw [if_neg e] at h ⊢
      exact h
def Asc (rs : List (List Int)) : Prop := rs.Pairwise fun a b => HT.lexLt a b = true
theorem rowS_mem {rs : List (List Int)} {d : D} {q : List Int} (h : q ∈ rowS rs d) : ∃ r ∈ rs, ∃ i : Nat, i < cntD d ∧ q = r ++ [(i : Int)] := by
  unfold rowS at h
  obtain ⟨r, hr, h⟩ := List.mem_flatMap.mp h
  obtain ⟨i, hi, rfl⟩ := List.mem_map.mp h
  exact ⟨r, hr, i, List.mem_range.mp hi, rfl⟩
theorem rowS_asc {rs : List (List Int)} {d : D} {n : Nat} (hl : ∀ r ∈ rs, r.length = n) (h : Asc rs) : Asc (rowS rs d) := by
  induction rs with
  | nil => exact List.Pairwise.nil
  | cons r t ih =>
    have hp := List.pairwise_cons.mp h
    unfold rowS
    rw [List.flatMap_cons]
    refine List.pairwise_append.mpr ⟨?_, ih (fun r hr => hl r (List.mem_cons_of_mem _ hr)) hp.2, fun a ha b hb => ?_⟩
    · rw [List.pairwise_map]
      refine List.pairwise_lt_range.imp fun {a b} hab => ?_
      rw [lexLt_same]
      show (if (a : Int) = (b : Int) then _ else decide ((a : Int) < (b : Int))) = true
      rw [if_neg (by omega), decide_eq_true (by omega)]
    · obtain ⟨i, _, rfl⟩ := List.mem_map.mp ha
      obtain ⟨s, hs, j, _, rfl⟩ := rowS_mem (d := d) hb
      exact lexLt_app _ _ _ _ ((hl r List.mem_cons_self).trans (hl s (List.mem_cons_of_mem _ hs)).symm) (hp.1 s hs)
theorem rowsF_ok (ds : List D) : ∀ i, i ≤ ds.length → Asc (rowsF (ds.take i)) ∧ ∀ r ∈ rowsF (ds.take i), r.length = i ∧ ∀ (j : Nat) (h : j < r.length) (h2 : j < ds.length), ∃ k : Nat, k < cntD ds[j] ∧ r[j] = (k : Int)
  | 0, _ => by
    refine ⟨?_, fun r hr => ?_⟩
    · rw [List.take_zero]
      exact List.pairwise_singleton _ _
    · rw [List.take_zero] at hr
      rw [List.mem_singleton.mp hr]
      exact ⟨rfl, fun j h => absurd h (Nat.not_lt_zero _)⟩
  | i + 1, hi => by
    obtain ⟨h1, h2⟩ := rowsF_ok ds i (Nat.le_of_succ_le hi)
    rw [rowsF_succ (Nat.lt_of_succ_le hi)]
    refine ⟨rowS_asc (fun r hr => (h2 r hr).1) h1, fun r hr => ?_⟩
    obtain ⟨q, hq, k, hk, rfl⟩ := rowS_mem hr
    obtain ⟨ql, qi⟩ := h2 q hq
    refine ⟨by rw [List.length_append, ql]; rfl, fun j hj hj2 => ?_⟩
    by_cases e : j < q.length
    · rw [List.getElem_append_left e]
      exact qi j e hj2
    · rw [List.length_append] at hj
      have e1 : [(k : Int)].length = 1 := rfl
      have ej : j = i := by omega
      subst ej
      refine ⟨k, hk, ?_⟩
      rw [List.getElem_append_right (by omega)]
      simp [ql]
end K2

namespace K2
open PySem L2
structure IsiC (K : PySem.W.Frag) (C fE : Addr) : Prop where
  eq : PySem.W.findIn K (.ref C) "__eq__" = some (some (.ref fE))
  ef : PySem.W.isFn K (.ref fE) = true
  n1 : PySem.W.notFirst K C (.ref C) = true
  n2 : PySem.W.notFirst K C (.type "tuple") = true
  ha : PySem.W.findIn K (.ref C) "__class__" = some (some (.builtin "object.__class__"))
  hn : PySem.W.specialIn K (.builtin "object.__class__") "__get__" = some (some (.builtin "getset_descriptor.__get__"))
  htk : PySem.W.takesIn K (.builtin "object.__class__") = some true
  hm : PySem.W.mroIn K C (.type "object") = some true
  k1 : PySem.W.kitOne K (.ref C) (.ref C) = some true
  k2 : PySem.W.kitOne K (.type "tuple") (.ref C) = some false
/-! ### equal item by item -/
theorem eqV_refl {x : V} (h : flatV x = true) : eqV x x = true := by
  cases x <;> first | rfl | cases h | skip
  all_goals first | exact beq_self_eq_true _ | exact decide_eq_true rfl
theorem dflat {x : V} {H : Hp} (h : flatV x = true) : DFlat x x H := ⟨h, h, eqV_refl h⟩
theorem prs_self {D : Eqv} {H : Hp} : ∀ {xs : List V}, (∀ x ∈ xs, D x x H) → Prs D xs xs H := fun {xs} h => ⟨rfl, fun i x y e1 e2 => by
  rw [e1] at e2
  obtain rfl := Option.some.inj e2
  exact h _ (List.mem_of_getElem? e1)⟩
theorem prs_all {α : Type} {R S : V → α → Prop} {D : Eqv} {H : Hp} {xs ys : List V} {l : List α} (a : All R xs l) (b : All S ys l) (h : ∀ x y c, R x c → S y c → D x y H) : Prs D xs ys H :=
  ⟨a.1.trans b.1.symm, fun i x y e1 e2 => by
    have hi : i < l.length := by
      rw [← a.1]
      exact (List.getElem?_eq_some_iff.mp e1).1
    exact h _ _ _ (a.at hi e1) (b.at hi e2)⟩
theorem dtup_all {α : Type} {K : PySem.W.Frag} {R S : V → α → Prop} {D : Eqv} {H : Hp} {x y : V} {l : List α} (a : TupAt H R x l) (b : TupAt H S y l) (h : ∀ x y c, R x c → S y c → D x y H) : DTup K D x y H := by
  obtain ⟨p, xs, rfl, h1, h2⟩ := a
  obtain ⟨q, ys, rfl, h3, h4⟩ := b
  exact ⟨p, q, xs, ys, rfl, rfl, SqT.of h1, SqT.of h3, prs_all h2 h4 h⟩
theorem dtup_row {K : PySem.W.Frag} {H : Hp} {x y : V} {r : List V} (a : RowAt H r x) (b : RowAt H r y) (h : ∀ z ∈ r, flatV z = true) : DTup K DFlat x y H := by
  obtain ⟨p, rfl, h1⟩ := a
  obtain ⟨q, rfl, h2⟩ := b
  exact ⟨p, q, r, r, rfl, rfl, SqT.of h1, SqT.of h2, prs_self fun z hz => dflat (h z hz)⟩
theorem flatD (d : D) : ∀ z ∈ d.v, flatV z = true := fun z hz => by
  unfold D.v at hz
  simp only [List.mem_cons, List.not_mem_nil, or_false] at hz
  rcases hz with rfl | rfl | rfl | rfl <;> rfl
theorem flatT (d : T) : ∀ z ∈ d.v, flatV z = true := fun z hz => by
  unfold T.v at hz
  simp only [List.mem_cons, List.not_mem_nil, or_false] at hz
  rcases hz with rfl | rfl <;> rfl
def RSh (C : Addr) (a b : Addr) (H : Hp) : Prop := ∃ ds ts, ShAt H C (.ref a) ds ts ∧ ShAt H C (.ref b) ds ts
theorem mon_RSh {C : Addr} : ∀ a b H H', Ext H H' → RSh C a b H → RSh C a b H' := fun _ _ _ _ e ⟨ds, ts, h1, h2⟩ => ⟨ds, ts, h1.same e, h2.same e⟩
theorem sh_eq {C : Addr} {H : Hp} {x y : V} {ds : List D} {ts : List T} (a : ShAt H C x ds ts) (b : ShAt H C y ds ts) : DIns C (RSh C) x y H := by
  have a0 := a
  have b0 := b
  obtain ⟨p, dp, _, _, rfl, h1, _⟩ := a
  obtain ⟨q, dq, _, _, rfl, h2, _⟩ := b
  exact ⟨p, q, dp, dq, _, _, rfl, rfl, h1, h2, ds, ts, a0, b0⟩
section
variable {P : Program} {w : World} {K : PySem.W.Frag} {mg : Str → Option Value} {base : Heap}
theorem scShEq : FnScope ["self", "other"] ["self", "other"] (defScope sShEq) := ⟨rfl, rfl, rfl, by decide +kernel, rfl, by decide +kernel, by decide +kernel⟩
theorem ok_shEq {f fI C : Addr} {fd : FuncData} (F : Fun K "__eq__" "Shape.__eq__" sShEq f fd) (M : Nm mg) (S : KC K C fI SHf) (I : IsiC K C f) (gC : mg "Shape" = some (.ref C)) : FnOk P w K mg base CX0 3 f fd ["self", "other"] (spEq (RSh C)) := by
  refine F.ok scShEq (fun vs H Q E h => ?_) (fun cdv A outer s H vs Q E hr h => ?_)
  · obtain ⟨a, b, rfl, _⟩ := h
    rfl
  · obtain ⟨a, b, rfl, ⟨ds, ts, ⟨a0, dx, u, v, ea, ha, h1, h2⟩, ⟨b0, dy, u', v', eb, hb, h3, h4⟩⟩, q⟩ := h
    obtain rfl := V.ref.inj ea
    obtain rfl := V.ref.inj eb
    refine ⟨_, pss_one (ps_ret (pe_and (pe_callB call_isi (by rfl) M.isinstance (by decide +kernel) (pa_cons (pv 1) (pa_cons (pe_glob (v := .ref C) (by rfl) gC rfl) pa_nil)))
      (pe_and (pe_cmpR (op_eqG (rcG_tup (mon_tup mon_flat) (eqG_tup mon_flat eqG_flat)) hr) (pe_fld (pv 0) rfl) (pe_fld (pv 1) rfl) (nomark _)) (pe_one (pe_cmpR (op_eqG (rcG_tup (mon_tup mon_flat) (eqG_tup mon_flat eqG_flat)) hr) (pe_fld (pv 0) rfl) (pe_fld (pv 1) rfl) (nomark _)))))), ?_⟩
    have nD : NoAttr K C "dims" := S.na _ (by decide +kernel)
    have nA : NoAttr K C "attrs" := S.na _ (by decide +kernel)
    refine ⟨_, rfl, _, .ref C, .ref C, .ref C, true, rfl, .own C, .base (.ins hb S.cl I.ha I.hn I.htk I.hm), I.k1, true, rfl, iteT ?_⟩
    refine ⟨_, rfl, a, C, dx, _, u, rfl, ha, S.cl, nD, rfl, _, rfl, b, C, dy, _, u', rfl, hb, S.cl, nD, rfl, dtup_all h1 h3 fun _ _ d z1 z2 => dtup_row z1 z2 (flatD d), fun H1 e1 => ⟨true, rfl, iteT ?_⟩⟩
    refine ⟨_, rfl, a, C, dx, _, v, rfl, e1 _ _ ha, S.cl, nA, rfl, _, rfl, b, C, dy, _, v', rfl, e1 _ _ hb, S.cl, nA, rfl, mon_tup (mon_tup mon_flat) _ _ _ _ e1 (dtup_all h2 h4 fun _ _ d z1 z2 => dtup_row z1 z2 (flatT d)), fun H2 e2 => q H2 (e1.trans e2)⟩
end
end K2

namespace L2
open PySem PySem.Spec PyProof.Rows
/-- a def that raises nothing, when it is asked so -/
theorem FnOk.noX {P : Program} {w : World} {K : PySem.W.Frag} {mg : Str → Option Value} {base : Heap} {k : Nat} {f : Addr} {fd : FuncData} {ps : List Str} {sp sp' : Sp} (F : FnOk P w K mg base (L2.CX P w) k f fd ps sp) (h : ∀ vs H Q E, sp' vs H Q E → sp vs H Q fun _ _ _ => False) :
    FnOk P w K mg base (fun _ _ _ _ _ _ => False) k f fd ps sp' :=
  ⟨fun vs H Q E q => F.len _ _ _ _ (h _ _ _ _ q), fun A outer s H args us vs Q E hr he hb hv hs => codeAny_mono (F.run A outer s H args us vs Q (fun _ _ _ => False) hr he hb hv (h _ _ _ _ hs)) fun r s' hq => by
    cases r with
    | ok fl => cases fl <;> exact hq
    | error e =>
      obtain ⟨_, _, _, _, _, _, _, _, _, _, _, _, z⟩ := (show L2.CX P w outer H s (fun _ _ _ => False) e s' from hq)
      exact z.elim⟩
end L2
namespace K2
open PySem L2
/-! ### a disk by its files -/
theorem map_int {o p : Option Nat} (h : o.map (fun i : Nat => V.int (i : Int)) = p.map fun i : Nat => V.int (i : Int)) : o = p := by
  cases o <;> cases p <;> simp_all <;> omega
theorem tget_put_ne (t : Tb) {n m : Str} (i : Nat) (h : m ≠ n) : tget (tput t n i) m = tget t m := by
  refine map_int ?_
  rw [← mp_get, ← mp_get, ← mp_put (fun i : Nat => V.int (i : Int)) t n i, valV_put]
  split
  · rename_i e
    first | exact absurd (inr_eq.mp e) h | exact absurd (inr_eq.mp e).symm h
  · rfl
theorem tget_drop (t : Tb) (a m : Str) : tget (tdrop t a) m = if m = a then none else tget t m := by
  unfold tget tdrop
  induction t with
  | nil => simp
  | cons p r ih =>
    by_cases h : p.1 = a
    · rw [List.filter_cons, if_neg (by simp [h]), ih]
      by_cases g : m = a
      · rw [if_pos g, if_pos g]
      · rw [if_neg g, if_neg g, List.find?_cons_of_neg (by simp; exact fun z => g (z.symm.trans h))]
    · rw [List.filter_cons, if_pos (by simp [h])]
      by_cases g : p.1 = m
      · rw [List.find?_cons_of_pos (by simp [g]), List.find?_cons_of_pos (by simp [g]), if_neg fun z => h (g.trans z)]
      · rw [List.find?_cons_of_neg (by simp [g]), List.find?_cons_of_neg (by simp [g]), ih]
def DS.rd (st : DS) (n : Str) : Option (List Int) := (tget st.tab n).bind fun i => st.cs[i]?.map Cn.o
def DS.ful (st : DS) (n : Str) : Prop := ∀ i c, tget st.tab n = some i → st.cs[i]? = some c → c.s = c.o.length
structure Nice (st : DS) : Prop where
  g : Gd st
  inj : ∀ m n i, tget st.tab m = some i → tget st.tab n = some i → m = n
  lim : st.lim = none
  o : ∀ c ∈ st.cs, c.o.length ≤ 900000
  h : st.chg.length ≤ 800
theorem rd_at {st : DS} (g : Gd st) {n : Str} {o : List Int} (h : st.rd n = some o) : ∃ i c, tget st.tab n = some i ∧ st.cs[i]? = some c ∧ c.o = o := by
  unfold DS.rd at h
  cases e : tget st.tab n with
  | none => rw [e] at h; cases h
  | some i =>
    rw [e] at h
    have il : i < st.cs.length := g.T.ix _ (tget_mem e)
    have ec := List.getElem?_eq_getElem il
    refine ⟨i, st.cs[i], rfl, ec, ?_⟩
    have h : st.cs[i]?.map Cn.o = some o := h
    rw [ec] at h
    exact Option.some.inj h
theorem rd_none {st : DS} (g : Gd st) {n : Str} (h : st.rd n = none) : tget st.tab n = none := by
  cases e : tget st.tab n with
  | none => rfl
  | some i =>
    unfold DS.rd at h
    rw [e] at h
    have il : i < st.cs.length := g.T.ix _ (tget_mem e)
    have h : st.cs[i]?.map Cn.o = none := h
    rw [List.getElem?_eq_getElem il] at h
    cases h
theorem rd_of {st : DS} {n : Str} {i : Nat} {c : Cn} (e : tget st.tab n = some i) (ec : st.cs[i]? = some c) : st.rd n = some c.o := by
  unfold DS.rd
  rw [e]
  show st.cs[i]?.map Cn.o = _
  rw [ec]
  rfl
theorem rd_no {st : DS} {n : Str} (e : tget st.tab n = none) : st.rd n = none := by
  unfold DS.rd
  rw [e]
  rfl
/-! append -/
structure App (st st' : DS) (n : Str) (os : List Int) : Prop where
  nice : Nice st'
  rd : ∀ m, st'.rd m = if m = n then some ((st.rd n).getD [] ++ os) else st.rd m
  ful : ∀ m, m ≠ n → st.ful m → st'.ful m
  chg : st'.chg.length ≤ st.chg.length + 1
theorem app_ok {st : DS} (N : Nice st) {n : Str} {os : List Int} (hl : ((st.rd n).getD []).length + os.length ≤ 900000) (hc : st.chg.length < 800) (G : Gd (st.tick.app n os)) : App st (st.tick.app n os) n os := by
  have g := N.g
  cases e : tget st.tab n with
  | none =>
    have ex : st.tick.app n os = { st.tick with cs := st.cs ++ [⟨os, 0⟩], tab := tput st.tab n st.cs.length, chg := st.chg ++ [.make n st.cs.length] } := by
      unfold DS.app
      rw [show tget st.tick.tab n = none from e]
      show DS.setc _ _ _ = _
      unfold DS.setc DS.chgd DS.addc DS.tick
      simp [mv, List.set_append]
    rw [ex] at G ⊢
    have ix : ∀ m i, tget st.tab m = some i → i < st.cs.length := fun m i h => g.T.ix _ (tget_mem h)
    refine ⟨⟨G, fun a b i ha hb => ?_, ?_, fun c hc => ?_, ?_⟩, fun m => ?_, fun m hm hf i c hi hc => ?_, ?_⟩
    · have ha : tget (tput st.tab n st.cs.length) a = some i := ha
      have hb : tget (tput st.tab n st.cs.length) b = some i := hb
      by_cases h1 : a = n <;> by_cases h2 : b = n
      · rw [h1, h2]
      · rw [h1, tget_put] at ha
        rw [tget_put_ne _ _ h2] at hb
        have := ix _ _ hb
        cases ha
        omega
      · rw [h2, tget_put] at hb
        rw [tget_put_ne _ _ h1] at ha
        have := ix _ _ ha
        cases hb
        omega
      · rw [tget_put_ne _ _ h1] at ha
        rw [tget_put_ne _ _ h2] at hb
        exact N.inj a b i ha hb
    · show st.lim.map (· - 1) = none
      rw [N.lim]
      rfl
    · have hc : c ∈ st.cs ++ [⟨os, 0⟩] := hc
      rcases List.mem_append.mp hc with h | h
      · exact N.o c h
      · rw [List.mem_singleton.mp h]
        show os.length ≤ 900000
        omega
    · show (st.chg ++ [_]).length ≤ 800
      rw [List.length_append]
      show st.chg.length + 1 ≤ 800
      omega
    · by_cases h : m = n
      · rw [if_pos h, rd_no e]
        refine rd_of (i := st.cs.length) (c := ⟨os, 0⟩) (by rw [h]; exact tget_put _ _ _) ?_
        show (st.cs ++ [_])[st.cs.length]? = _
        simp
      · rw [if_neg h]
        show (tget (tput st.tab n st.cs.length) m).bind (fun i => (st.cs ++ [_])[i]?.map Cn.o) = _
        rw [tget_put_ne _ _ h]
        unfold DS.rd
        cases em : tget st.tab m with
        | none => rfl
        | some i =>
          show ((st.cs ++ [_])[i]?).map Cn.o = (st.cs[i]?).map Cn.o
          rw [List.getElem?_append_left (ix _ _ em)]
    · have hi : tget (tput st.tab n st.cs.length) m = some i := hi
      rw [tget_put_ne _ _ hm] at hi
      have hc : (st.cs ++ [⟨os, 0⟩])[i]? = some c := hc
      rw [List.getElem?_append_left (ix _ _ hi)] at hc
      exact hf i c hi hc
    · show (st.chg ++ [_]).length ≤ st.chg.length + 1
      rw [List.length_append]
      exact Nat.le_refl _
  | some i =>
    have il : i < st.cs.length := g.T.ix _ (tget_mem e)
    have ec := List.getElem?_eq_getElem il
    have ex : st.tick.app n os = st.tick.setc i ⟨st.cs[i].o ++ os, st.cs[i].s⟩ := by
      unfold DS.app
      rw [show tget st.tick.tab n = some i from e]
      show (match st.cs[i]? with | some c => st.tick.setc i ⟨c.o ++ os, c.s⟩ | none => st.tick) = _
      rw [ec]
    rw [ex] at G ⊢
    rw [rd_of e ec] at hl
    refine ⟨⟨G, N.inj, ?_, fun c hc => ?_, ?_⟩, fun m => ?_, fun m hm hf j c hj hc => ?_, Nat.le_succ _⟩
    · show st.lim.map (· - 1) = none
      rw [N.lim]
      rfl
    · have hc : c ∈ st.cs.set i _ := hc
      rcases List.mem_or_eq_of_mem_set hc with h | h
      · exact N.o c h
      · rw [h]
        show (st.cs[i].o ++ os).length ≤ 900000
        rw [List.length_append]
        exact hl
    · show st.chg.length ≤ 800
      omega
    · by_cases h : m = n
      · rw [if_pos h, rd_of e ec]
        refine rd_of (c := ⟨st.cs[i].o ++ os, st.cs[i].s⟩) (by rw [h]; exact e) ?_
        show (st.cs.set i _)[i]? = _
        rw [List.getElem?_set_self il]
      · rw [if_neg h]
        show (tget st.tab m).bind (fun j => (st.cs.set i _)[j]?.map Cn.o) = (tget st.tab m).bind fun j => st.cs[j]?.map Cn.o
        cases em : tget st.tab m with
        | none => rfl
        | some j =>
          have : i ≠ j := fun z => h (N.inj m n j em (z ▸ e))
          show ((st.cs.set i _)[j]?).map Cn.o = _
          rw [List.getElem?_set_ne this]
          rfl
    · have hc : (st.cs.set i _)[j]? = some c := hc
      have nij : i ≠ j := fun z => hm (N.inj m n j hj (z ▸ e))
      rw [List.getElem?_set_ne nij] at hc
      exact hf j c hj hc
/-! sync -/
structure Syn (st st' : DS) (n : Str) : Prop where
  nice : Nice st'
  rd : ∀ m, st'.rd m = st.rd m
  ful : ∀ m, m = n ∨ st.ful m → st'.ful m
  chg : st'.chg = st.chg
theorem syn_ok {st : DS} (N : Nice st) {n : Str} {i : Nat} {c : Cn} (e : tget st.tab n = some i) (ec : st.cs[i]? = some c) : Syn st (st.tick.setc i ⟨c.o, c.o.length⟩) n := by
  have il : i < st.cs.length := (List.getElem?_eq_some_iff.mp ec).1
  have sg : ∀ (j : Nat), ((st.cs.set i ⟨c.o, c.o.length⟩)[j]?).map Cn.o = (st.cs[j]?).map Cn.o := fun j => by
    by_cases z : i = j
    · subst z
      rw [List.getElem?_set_self il, ec]
      rfl
    · rw [List.getElem?_set_ne z]
  refine ⟨⟨N.g.tick.setc _ _, N.inj, ?_, fun x hx => ?_, N.h⟩, fun m => ?_, fun m hf j x hj hx => ?_, rfl⟩
  · show st.lim.map (· - 1) = none
    rw [N.lim]
    rfl
  · have hx : x ∈ st.cs.set i _ := hx
    rcases List.mem_or_eq_of_mem_set hx with h | h
    · exact N.o x h
    · rw [h]
      exact N.o c (List.mem_of_getElem? ec)
  · show (tget st.tab m).bind (fun j => (st.cs.set i _)[j]?.map Cn.o) = (tget st.tab m).bind fun j => st.cs[j]?.map Cn.o
    cases tget st.tab m with
    | none => rfl
    | some j => exact sg j
  · have hx : (st.cs.set i _)[j]? = some x := hx
    by_cases z : i = j
    · subst z
      rw [List.getElem?_set_self il] at hx
      rw [← Option.some.inj hx]
    · rw [List.getElem?_set_ne z] at hx
      rcases hf with h | h
      · exact absurd (Option.some.inj ((h ▸ e : tget st.tab m = some i).symm.trans hj)) z
      · exact h j x hj hx
/-! rename -/
structure Ren (st st' : DS) (a b : Str) : Prop where
  nice : Nice st'
  rd : ∀ m, st'.rd m = if m = b then st.rd a else if m = a then none else st.rd m
  ful : (st.ful a → st'.ful b) ∧ ∀ m, m ≠ b → st.ful m → st'.ful m
  chg : st'.chg.length = st.chg.length + 1
theorem ren_ok {st : DS} (N : Nice st) {a b : Str} {i : Nat} (hab : a ≠ b) (e : tget st.tab a = some i) (hc : st.chg.length < 800) (G : Gd (st.tick.chgd (.ren a b i))) : Ren st (st.tick.chgd (.ren a b i)) a b := by
  have tg : ∀ m, tget (st.tick.chgd (.ren a b i)).tab m = if m = b then some i else if m = a then none else tget st.tab m := fun m => by
    show tget (tput (tdrop st.tab a) b i) m = _
    by_cases h : m = b
    · rw [if_pos h, h, tget_put]
    · rw [if_neg h, tget_put_ne _ _ h, tget_drop]
  refine ⟨⟨G, fun m n j hm hn => ?_, ?_, N.o, ?_⟩, fun m => ?_, ⟨fun h j c hj hc => ?_, fun m hm h j c hj hc => ?_⟩, ?_⟩
  · rw [tg] at hm hn
    by_cases h1 : m = b <;> by_cases h2 : n = b
    · rw [h1, h2]
    · rw [if_pos h1] at hm
      rw [if_neg h2] at hn
      by_cases h3 : n = a
      · rw [if_pos h3] at hn; cases hn
      · rw [if_neg h3] at hn
        cases hm
        exact absurd (N.inj n a i hn e) h3
    · rw [if_pos h2] at hn
      rw [if_neg h1] at hm
      by_cases h3 : m = a
      · rw [if_pos h3] at hm; cases hm
      · rw [if_neg h3] at hm
        cases hn
        exact absurd (N.inj m a i hm e) h3
    · rw [if_neg h1] at hm
      rw [if_neg h2] at hn
      split at hm
      · cases hm
      split at hn
      · cases hn
      exact N.inj m n j hm hn
  · show st.lim.map (· - 1) = none
    rw [N.lim]
    rfl
  · show (st.chg ++ [_]).length ≤ 800
    rw [List.length_append]
    show st.chg.length + 1 ≤ 800
    omega
  · unfold DS.rd
    rw [tg]
    by_cases h1 : m = b
    · rw [if_pos h1, if_pos h1, e]
      rfl
    · rw [if_neg h1, if_neg h1]
      by_cases h2 : m = a
      · rw [if_pos h2, if_pos h2]
        rfl
      · rw [if_neg h2, if_neg h2]
        rfl
  · rw [tg, if_pos rfl] at hj
    cases hj
    exact h i c e hc
  · rw [tg, if_neg hm] at hj
    split at hj
    · cases hj
    · exact h j c hj hc
  · show (st.chg ++ [_]).length = _
    rw [List.length_append]
    rfl
/-! sync_names -/
theorem nm_ok {st : DS} (N : Nice st) : Nice st.tick.syn := by
  refine ⟨N.g.tick.sync, N.inj, ?_, N.o, Nat.zero_le _⟩
  show st.lim.map (· - 1) = none
  rw [N.lim]
  rfl
/-- nothing is on its way -/
structure Quiet (st : DS) : Prop where
  n : Nice st
  s : st.sure = st.tab
  c : st.chg = []
  f : ∀ m, st.ful m
theorem quiet_syn {st : DS} (N : Nice st) (f : ∀ m, st.ful m) : Quiet st.tick.syn := ⟨nm_ok N, rfl, rfl, f⟩
theorem quiet0 : Quiet ds0 := by
  have t0 : ∀ m, tget ds0.tab m = none := fun m => rfl
  exact ⟨⟨gd0, (fun m n i h => by rw [t0] at h; cases h), rfl, (fun c h => by cases h), Nat.zero_le _⟩, rfl, rfl, (fun m i c h => by rw [t0] at h; cases h)⟩
/-! the names -/
theorem names_mem {st : DS} (g : Gd st) (n : Str) : n ∈ st.tab.map (·.1) ↔ st.rd n ≠ none := by
  constructor
  · intro h z
    exact tget_none (rd_none g z) h
  · intro h
    apply Classical.byContradiction
    intro k
    apply h
    cases e : tget st.tab n with
    | none => exact rd_no e
    | some i => exact absurd (List.mem_map.mpr ⟨_, tget_mem e, rfl⟩) k
theorem names_are {st : DS} (g : Gd st) {l : List Str} (hd : l.Nodup) (hs : PyProof.Rows.sortedS l = true) (h : ∀ n, st.rd n ≠ none ↔ n ∈ l) : srt (st.tab.map (·.1)) = l := by
  refine (srt_eq ?_ hs).symm
  refine (List.perm_ext_iff_of_nodup hd g.T.nd).mpr fun n => ?_
  rw [names_mem g, h]
end K2

namespace K2
open PySem L2
/-! ### a quiet disk that loses its power is as it was -/
theorem hold_ok {st : DS} (q : Quiet st) {n : Str} (hn : n ∈ NM) {os : List Int} (ho : os.length ≤ 900000) : Quiet (hold st n os) ∧ ∀ m, (hold st n os).rd m = if m = n then some os else st.rd m := by
  have g := q.n.g
  have ix : ∀ m i, tget st.tab m = some i → i < st.cs.length := fun m i h => g.T.ix _ (tget_mem h)
  have tg : ∀ m, tget (hold st n os).tab m = if m = n then some st.cs.length else tget st.tab m := fun m => by
    show tget (tput st.tab n st.cs.length) m = _
    by_cases h : m = n
    · rw [if_pos h, h, tget_put]
    · rw [if_neg h, tget_put_ne _ _ h]
  have cg : ∀ i, (hold st n os).cs[i]? = if i < st.cs.length then st.cs[i]? else if i = st.cs.length then some ⟨os, os.length⟩ else none := fun i => by
    show (st.cs ++ [_])[i]? = _
    by_cases h : i < st.cs.length
    · rw [if_pos h, List.getElem?_append_left h]
    · rw [if_neg h]
      by_cases z : i = st.cs.length
      · rw [if_pos z, z, List.getElem?_append_right (Nat.le_refl _), Nat.sub_self]
        rfl
      · rw [if_neg z, List.getElem?_eq_none (by rw [List.length_append]; show st.cs.length + 1 ≤ i; omega)]
  refine ⟨⟨⟨g.hold q.s q.c hn os, fun a b i ha hb => ?_, q.n.lim, fun c hc => ?_, q.n.h⟩, ?_, q.c, fun m i c hi hc => ?_⟩, fun m => ?_⟩
  · rw [tg] at ha hb
    by_cases h1 : a = n <;> by_cases h2 : b = n
    · rw [h1, h2]
    · rw [if_pos h1] at ha
      rw [if_neg h2] at hb
      cases ha
      exact absurd (ix _ _ hb) (Nat.lt_irrefl _)
    · rw [if_neg h1] at ha
      rw [if_pos h2] at hb
      cases hb
      exact absurd (ix _ _ ha) (Nat.lt_irrefl _)
    · rw [if_neg h1] at ha
      rw [if_neg h2] at hb
      exact q.n.inj a b i ha hb
  · have hc : c ∈ st.cs ++ [⟨os, os.length⟩] := hc
    rcases List.mem_append.mp hc with h | h
    · exact q.n.o c h
    · rw [List.mem_singleton.mp h]
      exact ho
  · show tput st.sure n _ = tput st.tab n _
    rw [q.s]
  · rw [tg] at hi
    rw [cg] at hc
    by_cases h : m = n
    · rw [if_pos h] at hi
      cases hi
      rw [if_neg (Nat.lt_irrefl _), if_pos rfl] at hc
      cases hc
      rfl
    · rw [if_neg h] at hi
      rw [if_pos (ix _ _ hi)] at hc
      exact q.f m i c hi hc
  · unfold DS.rd
    rw [tg]
    by_cases h : m = n
    · rw [if_pos h, if_pos h]
      show ((hold st n os).cs[st.cs.length]?).map Cn.o = some os
      rw [cg, if_neg (Nat.lt_irrefl _), if_pos rfl]
      rfl
    · rw [if_neg h, if_neg h]
      cases e : tget st.tab m with
      | none => rfl
      | some i =>
        show ((hold st n os).cs[i]?).map Cn.o = (st.cs[i]?).map Cn.o
        rw [cg, if_pos (ix _ _ e)]
theorem hld_rd (ps : Fl) (hn : ∀ q ∈ ps, q.1 ∈ NM) (ho : ∀ q ∈ ps, q.2.length ≤ 900000) (nd : (ps.map (·.1)).Nodup) : Quiet (hld ps) ∧ (∀ q ∈ ps, (hld ps).rd q.1 = some q.2) ∧ ∀ m, m ∉ ps.map (·.1) → (hld ps).rd m = none := by
  refine snocI (P := fun ps => (∀ q ∈ ps, q.1 ∈ NM) → (∀ q ∈ ps, q.2.length ≤ 900000) → (ps.map (·.1)).Nodup → Quiet (hld ps) ∧ (∀ q ∈ ps, (hld ps).rd q.1 = some q.2) ∧ ∀ m, m ∉ ps.map (·.1) → (hld ps).rd m = none) (fun _ _ _ => ⟨quiet0, (fun q h => by cases h), fun m _ => rfl⟩) (fun l a ih h1 h2 h3 => ?_) ps hn ho nd
  rw [List.map_append, List.nodup_append] at h3
  obtain ⟨n1, _, n3⟩ := h3
  obtain ⟨i1, i2, i3⟩ := ih (fun q hq => h1 q (List.mem_append_left _ hq)) (fun q hq => h2 q (List.mem_append_left _ hq)) n1
  obtain ⟨k1, k2⟩ := hold_ok i1 (h1 a (List.mem_append_right _ List.mem_cons_self)) (h2 a (List.mem_append_right _ List.mem_cons_self))
  rw [hld_snoc]
  refine ⟨k1, fun q hq => ?_, fun m hm => ?_⟩
  · rw [k2]
    rcases List.mem_append.mp hq with h | h
    · rw [if_neg (n3 q.1 (List.mem_map.mpr ⟨q, h, rfl⟩) a.1 (List.mem_singleton.mpr rfl))]
      exact i2 q h
    · rw [List.mem_singleton.mp h, if_pos rfl]
  · rw [List.map_append, List.mem_append] at hm
    rw [k2, if_neg fun z => hm (.inr (List.mem_singleton.mpr z))]
    exact i3 m fun z => hm (.inl z)
theorem olv_nil {c : Cn} (h : c.s = c.o.length) : olv c [] = c.o := by
  have k0 : olk c [] = 0 := by
    unfold olk nb
    simp
  have r0 : olr c [] = [] := by
    unfold olr
    rw [k0, List.take_zero]
  unfold olv
  rw [r0, if_neg (by simp), List.append_nil, h, List.take_length]
theorem stp_nil (st : DS) (t : Tb) : ∀ (ns : List Str) (acc : Fl), (ns.foldl (stp st t) (acc, ([] : List Int))) = (acc ++ ns.map fun n => (n, olv (cnm st t n) []), []) := by
  intro ns
  induction ns with
  | nil => intro acc; simp
  | cons n r ih =>
    intro acc
    have e : stp st t (acc, ([] : List Int)) n = (acc ++ [(n, olv (cnm st t n) [])], []) := by
      unfold stp olc
      simp
    rw [List.foldl_cons, e, ih]
    simp
theorem lose_ok {st : DS} (q : Quiet st) : Quiet (hld (lsP st [])) ∧ ∀ m, (hld (lsP st [])).rd m = st.rd m := by
  have g := q.n.g
  have et : lsT st [] = st.tab := by
    unfold lsT
    rw [q.c, ← q.s]
    simp [run]
  have ep : lsP st [] = (srt (st.tab.map (·.1))).map fun n => (n, olv (cnm st st.tab n) []) := by
    unfold lsP lsN
    rw [et]
    show (List.foldl (stp st st.tab) ([], ([] : List Int)) _).1 = _
    rw [stp_nil]
    simp
  have val : ∀ n i, tget st.tab n = some i → ∃ c, st.cs[i]? = some c ∧ olv (cnm st st.tab n) [] = c.o := fun n i h => by
    have il : i < st.cs.length := g.T.ix _ (tget_mem h)
    have ec := List.getElem?_eq_getElem il
    have e1 : cnm st st.tab n = st.cs[i] := by
      unfold cnm
      rw [h]
      show (st.cs[i]?).getD _ = _
      rw [ec]
      rfl
    exact ⟨_, ec, by rw [e1]; exact olv_nil (q.f n i _ h ec)⟩
  have mem : ∀ n, n ∈ srt (st.tab.map (·.1)) ↔ st.rd n ≠ none := fun n => ((srt_perm _).mem_iff).trans (names_mem g n)
  have names : (lsP st []).map (·.1) = srt (st.tab.map (·.1)) := by
    rw [ep, List.map_map]
    exact List.map_id _
  obtain ⟨h1, h2, h3⟩ := hld_rd (lsP st []) (fun p hp => by
      have : p.1 ∈ (lsP st []).map (·.1) := List.mem_map.mpr ⟨p, hp, rfl⟩
      rw [names] at this
      obtain ⟨r, hr, e⟩ := List.mem_map.mp (srt_mem this)
      rw [← e]
      exact g.T.nm r hr) (fun p hp => by
      rw [ep] at hp
      obtain ⟨n, hn, rfl⟩ := List.mem_map.mp hp
      obtain ⟨i, hi⟩ := tget_some (srt_mem hn)
      obtain ⟨c, ec, e⟩ := val n i hi
      show (olv (cnm st st.tab n) []).length ≤ _
      rw [e]
      exact q.n.o c (List.mem_of_getElem? ec)) (by rw [names]; exact srt_nodup g.T.nd)
  refine ⟨h1, fun m => ?_⟩
  cases e : tget st.tab m with
  | none =>
    rw [rd_no e, h3 m]
    rw [names, mem, rd_no e]
    exact fun z => z rfl
  | some i =>
    obtain ⟨c, ec, e2⟩ := val m i e
    have hm : m ∈ srt (st.tab.map (·.1)) := (mem m).mpr (by rw [rd_of e ec]; exact fun z => nomatch z)
    rw [rd_of e ec, ← e2]
    exact h2 (m, olv (cnm st st.tab m) []) (by rw [ep]; exact List.mem_map.mpr ⟨m, hm, rfl⟩)
end K2

namespace K2
open PySem L2
/-! ### the deeds of a disk whose power is not lost -/
structure Stp (CD CC : Addr) (H H' : Hp) (d : Addr) (st st' : DS) (p p' : DP) : Prop where
  o : Out (foot d p st.cs.length) H H'
  w : Gw (foot d p st.cs.length) (foot d p' st'.cs.length) H
  k : DkAt CD CC H' d st' p'
theorem Nice.lim0 {st : DS} (N : Nice st) : st.lim ≠ some 0 := by
  rw [N.lim]
  exact fun z => nomatch z
section
variable {P : Program} {w : World} {K : PySem.W.Frag} {mg : Str → Option Value} {base : Heap}
def spAp (CD CC : Addr) : Sp := fun vs H Q _ => ∃ (d l : Addr) (st : DS) (p : DP) (n : Str) (os : List Int), vs = [.ref d, .str n, .ref l] ∧ DkAt CD CC H d st p ∧ Nice st ∧ H l = some (.lst (os.map V.int)) ∧ ¬ foot d p st.cs.length l ∧ n ∈ NM ∧ ((st.rd n).getD []).length + os.length ≤ 900000 ∧ st.chg.length < 800 ∧
  ∀ H' p' st', Stp CD CC H H' d st st' p p' → App st st' n os → Q .non H'
theorem ok_ap {f : Addr} {fd : FuncData} {CD CC CE : Addr} {k : Nat} (F : FnOk P w K mg base (L2.CX P w) k f fd ["self", "name", "octets"] (spAppend CD CC CE)) : FnOk P w K mg base CX0 k f fd ["self", "name", "octets"] (spAp CD CC) := by
  refine F.noX fun vs H Q E h => ?_
  obtain ⟨d, l, st, p, n, os, rfl, hd, N, hl, nf, hn, len, hc, q⟩ := h
  exact ⟨d, l, st, p, n, os, rfl, hd, N.g, hl, nf, hn, N.o, by omega, by omega, fun _ H' p' o w k G => q H' p' _ ⟨o, w, k⟩ (app_ok N len hc G), fun z => absurd z N.lim0⟩
def spSy (CD CC : Addr) : Sp := fun vs H Q _ => ∃ (d : Addr) (st : DS) (p : DP) (n : Str), vs = [.ref d, .str n] ∧ DkAt CD CC H d st p ∧ Nice st ∧ st.rd n ≠ none ∧ ∀ H' p' st', Stp CD CC H H' d st st' p p' → Syn st st' n → Q .non H'
theorem ok_sy {f : Addr} {fd : FuncData} {CD CC CE : Addr} {k : Nat} (F : FnOk P w K mg base (L2.CX P w) k f fd ["self", "name"] (spSync CD CC CE)) : FnOk P w K mg base CX0 k f fd ["self", "name"] (spSy CD CC) := by
  refine F.noX fun vs H Q E h => ?_
  obtain ⟨d, st, p, n, rfl, hd, N, hr, q⟩ := h
  obtain ⟨o, ho⟩ := Option.ne_none_iff_exists'.mp hr
  obtain ⟨i, c, e, ec, _⟩ := rd_at N.g ho
  exact ⟨d, st, p, n, i, c, rfl, hd, N.g, e, ec, fun _ H' p' o w k G => q H' p' _ ⟨o, w, k⟩ (syn_ok N e ec), fun z => absurd z N.lim0⟩
def spRn (CD CC : Addr) : Sp := fun vs H Q _ => ∃ (d : Addr) (st : DS) (p : DP) (a b : Str), vs = [.ref d, .str a, .str b] ∧ DkAt CD CC H d st p ∧ Nice st ∧ a ≠ b ∧ st.rd a ≠ none ∧ b ∈ NM ∧ st.chg.length < 800 ∧ ∀ H' p' st', Stp CD CC H H' d st st' p p' → Ren st st' a b → Q .non H'
theorem ok_dren {f : Addr} {fd : FuncData} {CD CC CE : Addr} {k : Nat} (F : FnOk P w K mg base (L2.CX P w) k f fd ["self", "old", "new"] (spRename CD CC CE)) : FnOk P w K mg base CX0 k f fd ["self", "old", "new"] (spRn CD CC) := by
  refine F.noX fun vs H Q E h => ?_
  obtain ⟨d, st, p, a, b, rfl, hd, N, ab, hr, hb, hc, q⟩ := h
  obtain ⟨o, ho⟩ := Option.ne_none_iff_exists'.mp hr
  obtain ⟨i, c, e, ec, _⟩ := rd_at N.g ho
  exact ⟨d, st, p, a, b, i, rfl, hd, N.g, e, hb, by omega, fun _ H' p' o w k G => q H' p' _ ⟨o, w, k⟩ (ren_ok N ab e hc G), fun z => absurd z N.lim0⟩
def spSn (CD CC : Addr) : Sp := fun vs H Q _ => ∃ (d : Addr) (st : DS) (p : DP), vs = [.ref d] ∧ DkAt CD CC H d st p ∧ Nice st ∧ ∀ H' p', Stp CD CC H H' d st st.tick.syn p p' → Q .non H'
theorem ok_sn {f : Addr} {fd : FuncData} {CD CC CE : Addr} {k : Nat} (F : FnOk P w K mg base (L2.CX P w) k f fd ["self"] (spSyncN CD CC CE)) : FnOk P w K mg base CX0 k f fd ["self"] (spSn CD CC) := by
  refine F.noX fun vs H Q E h => ?_
  obtain ⟨d, st, p, rfl, hd, N, q⟩ := h
  exact ⟨d, st, p, rfl, hd, N.g, fun _ H' p' o w k G => q H' p' ⟨o, w, k⟩, fun z => absurd z N.lim0⟩
def szV : Option (List Int) → V
  | none => .non
  | some o => .int (o.length : Int)
def spSz (CD CC : Addr) : Sp := fun vs H Q _ => ∃ (d : Addr) (st : DS) (p : DP) (n : Str), vs = [.ref d, .str n] ∧ DkAt CD CC H d st p ∧ Gd st ∧ Q (szV (st.rd n)) H
theorem ok_sz {f : Addr} {fd : FuncData} {CD CC : Addr} {k : Nat} (F : FnOk P w K mg base CX0 k f fd ["self", "name"] (spSize CD CC)) : FnOk P w K mg base CX0 k f fd ["self", "name"] (spSz CD CC) := by
  refine F.imp fun vs H Q E h => ?_
  obtain ⟨d, st, p, n, rfl, hd, g, q⟩ := h
  refine ⟨d, st, p, n, rfl, hd, fun e => ?_, fun i e => ?_⟩
  · rw [rd_no e] at q
    exact q
  · have il : i < st.cs.length := g.T.ix _ (tget_mem e)
    have ec := List.getElem?_eq_getElem il
    rw [rd_of e ec] at q
    exact ⟨_, ec, q⟩
def spRf (CD CC : Addr) : Sp := fun vs H Q _ => ∃ (d : Addr) (st : DS) (p : DP) (n : Str) (a b : Nat) (o : List Int), vs = [.ref d, .str n, .int (a : Int), .int (b : Int)] ∧ DkAt CD CC H d st p ∧ Gd st ∧ st.rd n = some o ∧ ∀ H' q, Same H H' → H q = none → H' q = some (.lst (((o.drop a).take b).map V.int)) → Q (.ref q) H'
theorem ok_rf {f : Addr} {fd : FuncData} {CD CC : Addr} {k : Nat} (F : FnOk P w K mg base CX0 k f fd ["self", "name", "start", "count"] (spRead CD CC)) : FnOk P w K mg base CX0 k f fd ["self", "name", "start", "count"] (spRf CD CC) := by
  refine F.imp fun vs H Q E h => ?_
  obtain ⟨d, st, p, n, a, b, o, rfl, hd, g, hr, q⟩ := h
  obtain ⟨i, c, e, ec, rfl⟩ := rd_at g hr
  exact ⟨d, st, p, n, a, b, i, c, rfl, hd, e, ec, q⟩
def spLs (CD CC : Addr) : Sp := fun vs H Q _ => ∃ (d l : Addr) (st : DS) (p : DP), vs = [.ref d, .ref l] ∧ DkAt CD CC H d st p ∧ Quiet st ∧ H l = some (.lst []) ∧
  ∀ H' d2 p2 st2, Same H H' → DkAt CD CC H' d2 st2 p2 → (∀ a, foot d2 p2 st2.cs.length a → H a = none) → Quiet st2 → (∀ n, st2.rd n = st.rd n) → Q (.ref d2) H'
theorem ok_ls {f : Addr} {fd : FuncData} {CD CC : Addr} {k : Nat} (F : FnOk P w K mg base CX0 k f fd ["self", "choices"] (spLose K CD CC)) : FnOk P w K mg base CX0 k f fd ["self", "choices"] (spLs CD CC) := by
  refine F.imp fun vs H Q E h => ?_
  obtain ⟨d, l, st, p, rfl, hd, N, hl, q⟩ := h
  obtain ⟨h1, h2⟩ := lose_ok N
  exact ⟨d, l, st, p, [], rfl, hd, N.n.g, fun c hc => Nat.le_trans (N.n.o c hc) (by decide), by have := N.n.h; omega, hl, fun H' d2 p2 s k fr => q H' d2 p2 _ s k fr h1 h2⟩
end
/-! ### what no deed writes -/
open Classical in
noncomputable def hid (F : Addr → Prop) (H : Hp) : Hp := fun a => if F a then none else H a
theorem hid_mk {F : Addr → Prop} {H : Hp} {a : Addr} {o : HO} (n : ¬ F a) (h : H a = some o) : hid F H a = some o := by
  unfold hid
  rw [if_neg n]
  exact h
theorem hid_some {F : Addr → Prop} {H : Hp} {a : Addr} {o : HO} (h : hid F H a = some o) : ¬ F a ∧ H a = some o := by
  unfold hid at h
  by_cases f : F a
  · rw [if_pos f] at h; cases h
  · rw [if_neg f] at h; exact ⟨f, h⟩
theorem hid_same (F : Addr → Prop) (H : Hp) : Same (hid F H) H := fun a o h => (hid_some h).2
theorem hid_stp {F F' : Addr → Prop} {H H' : Hp} (o : Out F H H') (w : Gw F F' H) : Same (hid F H) (hid F' H') := fun a x h => by
  obtain ⟨n, e⟩ := hid_some h
  refine hid_mk (fun f => ?_) (o a x e n)
  rcases w a f with z | z
  · exact n z
  · rw [z] at e; cases e
theorem hid_of_same {F : Addr → Prop} {H H' : Hp} (s : Same H H') : Same (hid F H) (hid F H') := fun a x h => by
  obtain ⟨n, e⟩ := hid_some h
  exact hid_mk n (s _ _ e)
/-- what is hidden less shows more -/
theorem hid_le {F F' : Addr → Prop} {H : Hp} (k : ∀ a, F' a → F a) : Same (hid F H) (hid F' H) := fun a x h => by
  obtain ⟨n, e⟩ := hid_some h
  exact hid_mk (fun z => n (k _ z)) e
/-- what is there behind Same, that stood nowhere before, is not hidden -/
theorem hid_new {F : Addr → Prop} {H H' : Hp} (occ : ∀ a, F a → H a ≠ none) {p : Addr} {o : HO} (n : H p = none) (h : H' p = some o) : hid F H' p = some o := hid_mk (fun f => occ p f n) h
end K2

namespace L2
open PySem PySem.Spec PyProof.Rows
/-! ### a dict comprehension whose keys are tuples -/
/-- what the dict under way is given -/
theorem put_ok {Y : Cx} {pins : List (Addr × Obj)} {σ : St} {H H' : Hp} {s : Shared} {D : Addr} {y v : V} {u r : Value} {E : Value → Shared → Prop} {Q : Unit → Shared → Prop} (hu : Y.A.units < cLine) (I : Inv Y pins σ H s) (p : DPut H D y v H') (ry : RelV y u) (rv : RelV v r)
    (k : ∀ s', Inv Y pins σ H' s' → Q () s') : wpAny (model Y.prog Y.w) Y.A (dictSet D u r) Q E s := by
  rcases p with ⟨kvs, q, e, rfl, l, rfl⟩ | ⟨kvs, q, b, e, rfl, eb, l, rfl⟩
  · exact d_dictSet I e l ry rv k
  · obtain rfl : u = Value.ref b := ry
    obtain ⟨z0, z1, xs, rel, dd⟩ := dt_of I.hok e
    have len := Paired.length rel
    have lp := length_putK kvs q v
    refine wpAny_dictSet_heap (hsz := by omega) (knd := tupleKind (mixKind Y.prog Y.w)) (by first | exact hu | exact tupleKind_room hu) (key_of I.hok eb) dd fun g dg sb => k _ ?_
    obtain ⟨ob, es, ep, t1, t2, t3, t4, _, t5⟩ := dg
    refine d_write I (by rw [e]; exact trivial) sb ⟨ob, t1⟩ ⟨by omega, z1, _, (rel.put q eb rv).keeps fun c ys ec => ?_, ob, es, ep, t1, t2, t3, t4, t5⟩
    rw [upd_ne (ne_of ec e (fun z => nomatch z))]
    exact ec
theorem loopD {Y : Cx} {kx vx tg iter : Expr} {ifs : List Expr} {scope : Scope} {pos : Pos} {J : It} {it D : Addr} {fp : List Addr} {tn : Nat → Heap → Prop} {σ₀ : St} {vs : List Nat} {g : TG} {tt : TT} {tk tv : TE} {Qd : Hp → Prop} {R : Result → Shared → Prop}
    (T : Turn Y.prog Y.w Y.K tg J fp it tn) (hc : Y.calm = true) (hu : Y.A.units < cLine) (pg : PG Y tg g) (pt : PTs Y ifs tt) (pk : PE Y kx tk) (pv : PE Y vx tv)
    (ok : ∀ s H σ, Inv Y [] σ H s → (∀ b ∈ fp, H b = none) → ∀ b ∈ fp, FpOk Y [] H b) {W : Nat → Nat → Hp → Prop}
    (turn : ∀ i m H, W i m H → (J.stop i H ∧ Qd H) ∨ (J.go i H ∧ ∃ Nx : Hp → Prop, (∀ H', Nx H' → ∃ m', m' < m ∧ W (i + 1) m' H') ∧ ∀ x H', J.yld i H x H' → g x σ₀ H' fun σ2 H2 => wipe σ2 vs = σ₀ ∧ tt σ2 H2 fun b H3 =>
      if b = true then tk σ2 H3 fun y H4 => tv σ2 H4 fun z H5 => ∃ H6, DPut H5 D y z H6 ∧ Nx H6 else Nx H3))
    (stop : ∀ s H, Inv Y [] σ₀ H s → Qd H → R (.ok .next) s) (err : ∀ u s', ¬ Y.xe u s')
    {m0 : Nat} {s0 : Shared} {H0 : Hp} (w0 : W 0 m0 H0) (I0 : Inv Y [] σ₀ H0 s0) (t0 : tn 0 s0.heap) (n0 : ∀ b ∈ fp, H0 b = none) :
    codeAny (model Y.prog Y.w) Y.A (.compLoop (.DictComp kx vx [⟨tg, iter, ifs, 0⟩] scope pos) 0 (.ref it) (.ref D) Y.env) R s0 := by
  let At : Nat → Shared → Prop := fun n s => ∃ i H, W i n H ∧ Inv Y [] σ₀ H s ∧ tn i s.heap ∧ ∀ b ∈ fp, H b = none
  have on : ∀ {α : Type} {t : Sem α} {P P' : α → Shared → Prop} {s : Shared}, wpAny (model Y.prog Y.w) Y.A t P Y.xe s → (∀ a s, P a s → P' a s) →
      wpAny (model Y.prog Y.w) Y.A t P' (notedBy (model Y.prog Y.w) Y.A Y.env fun e s2 => R (.error e) s2) s := fun z k => wpAny_mono z k fun _ _ y => absurd y (err _ _)
  refine compLoop_anyD At (fun n s => ?_) m0 ⟨0, H0, w0, I0, t0, n0⟩
  rintro ⟨i, H, w, I, t, nn⟩
  rcases turn i n H w with ⟨st, qd⟩ | ⟨go, Nx, back, step⟩
  · refine on (T.done Y rfl rfl rfl hc i [] s σ₀ H Y.xe I (ok s H σ₀ I nn) t st) ?_
    rintro r s2 ⟨rfl, I2⟩
    exact stop s2 H I2 qd
  · refine on (T.item Y rfl rfl rfl hc i [] s σ₀ H Y.xe I (ok s H σ₀ I nn) t go) ?_
    rintro r s1 ⟨u, rfl, h1⟩
    refine on h1 ?_
    rintro _ s2 ⟨x, H2, I2, rx, y2, t2, n2⟩
    have J2 := I2.pinned (ok s2 H2 σ₀ I2 n2) (T.obj _ _ t2)
    have again : ∀ {s' : Shared} {σ' : St} {H' : Hp}, Inv Y ([] ++ pinsAt fp s2.heap) σ' H' s' → wipe σ' vs = σ₀ → Nx H' → ∃ m, m < n ∧ At m s' := fun {s' σ' H'} I' hw nx => by
      obtain ⟨m', lt, w'⟩ := back H' nx
      have held : ∀ b ∈ fp, ∀ o, s2.heap.get? b = some o → s'.heap.get? b = some o ∧ H' b = none := fun b hb o e =>
        have z := I'.pin (b, o) (List.mem_append_right _ (List.mem_append_right _ (mem_pinsAt hb e)))
        ⟨z.1, z.2.1⟩
      have len : σ₀.length = σ'.length := by rw [← hw, wipe_length]
      refine ⟨m', lt, i + 1, H', w', (I'.unpinned (pins := [])).weak len (fun j v e => ?_), T.keep _ _ _ t2 fun b hb o e => (held b hb o e).1, fun b hb => ?_⟩
      · rw [← hw] at e
        exact (wipe_some e).1
      · obtain ⟨o, e, _⟩ := T.obj _ _ t2 b hb
        exact (held b hb o e).2
    refine on (pg.run _ s2 σ₀ H2 x u _ J2 rx (step x H2 y2)) ?_
    rintro _ s3 ⟨σ3, H3, I3, hw, q3⟩
    refine on (pt.run _ s3 σ3 H3 _ I3 q3) ?_
    rintro b s4 ⟨H4, I4, q4⟩
    cases b with
    | false => exact again I4 hw q4
    | true =>
      refine on (pk.run _ s4 σ3 H4 _ I4 q4) ?_
      rintro kz s5 ⟨yk, H5, I5, r5, q5⟩
      refine on (pv.run _ s5 σ3 H5 _ I5 q5) ?_
      rintro vz s6 ⟨yv, H6, I6, r6, H7, dp, nx⟩
      exact put_ok hu I6 dp r5 r6 fun s7 I7 => again I7 hw nx
/-- in each block of the scope -/
abbrev InBlk (X : Cx) (scope : Scope) (p : Cx → Prop) : Prop := ∀ (s : Shared) (H : Hp) (C : Addr) (cl : List (Str × Addr)) (fp : List Addr), p (X.blk s H scope (compEnvC scope cl C X.env) fp)
section
variable {X : Cx}
def tDcT (wi : TI) (g : TG) (tt : TT) (tk tv : TE) (vs : List Nat) : TE := fun σ H Q => wi σ H fun J H1 => ∀ D, H1 D = none → ∃ W : Nat → Nat → Hp → Prop, (∃ m, W 0 m (upd H1 D (.dT []))) ∧ ∀ i m H, W i m H →
  (J.stop i H ∧ Q (.ref D) H) ∨ (J.go i H ∧ ∃ Nx : Hp → Prop, (∀ H', Nx H' → ∃ m', m' < m ∧ W (i + 1) m' H') ∧ ∀ x H', J.yld i H x H' → g x (wipe σ vs) H' fun σ2 H2 => wipe σ2 vs = wipe σ vs ∧ tt σ2 H2 fun b H3 =>
    if b = true then tk σ2 H3 fun y H4 => tv σ2 H4 fun z H5 => ∃ H6, DPut H5 D y z H6 ∧ Nx H6 else Nx H3)
theorem dcT_core {pins : List (Addr × Obj)} {s : Shared} {σ : St} {H : Hp} {Q : VK} {kx vx tg iter : Expr} {ifs : List Expr} {scope : Scope} {own : List (Str × Nat)} {pos pos' : Pos} {wi : TI} {g : TG} {tt : TT} {tk tv : TE} {use : Option (Value → Sem Unit)} {Qf : Value → Shared → Prop}
    (hc : X.calm = true) (hu : X.A.units < cLine) (hN : X.N.Nodup) (I : Inv X pins σ H s) (hi : PI X tg iter wi) (ok : BlkOk X.N X.env.scope scope own)
    (hg : InBlk X scope fun Y => PG Y tg g) (ht : InBlk X scope fun Y => PTs Y ifs tt)
    (hk : InBlk X scope fun Y => PE Y kx tk) (he : InBlk X scope fun Y => PE Y vx tv)
    (hs : ∀ x, foldedSetIterable iter X.env x = pure x) (h : tDcT wi g tt tk tv (own.map (·.2)) σ H Q)
    (hRR : ∀ D C s' m H', Inv X pins σ H' s' → Q (.ref D) H' → s'.heap.Ns C m → FpOk X pins H' C → compPost (model X.prog X.w) X.A X.xe use Qf (.ref D) C (.ok .next) s') :
    wpAny (model X.prog X.w) X.A (comprehension (.DictComp kx vx [⟨tg, iter, ifs, 0⟩] scope pos) scope X.env pos' newDict false (eval iter X.env) use) Qf X.xe s := by
  have cells : ∀ y ∈ scope.names, y.2 = .free → ∃ c, X.env.cells.lookup y.1 = some c := fun y hy e => I.ok.has _ (by
    rcases ok.free y hy e with k | k
    · exact .inl k
    · exact .inr k)
  have up : ∀ {α : Type} {t : Sem α} {P P' : α → Shared → Prop} {s : Shared}, wpAny (model X.prog X.w) X.A t P X.xe s → (∀ a s, P a s → P' a s) → wpAny (model X.prog X.w) X.A t P' X.xe s := fun z k => wpAny_mono z k fun _ _ y => y
  refine wpAny_comprehension_free (use := use) rfl hs (closure_ok cells) ok.kind (fun y hy e => by rw [ok.uniq y hy, e]) (up (hi.run pins s σ H _ I h) fun xv s1 h1 => up h1 fun itv s2 h2 => ?_)
  obtain ⟨it, fp, tn, J, H2, rfl, I2, T, t2, f2, q⟩ := h2
  obtain ⟨D, hD⟩ : ∃ D, D = s2.heap.objs.size := ⟨_, rfl⟩
  have small : ∀ b ∈ fp, b < s2.heap.objs.size := fun b hb =>
    have ⟨o, e, _⟩ := T.obj _ _ t2 b hb
    Heap.lt_size e
  refine wpAny_newObj_type (newEnv_comp ?_)
  obtain ⟨s3, e3⟩ : ∃ s3 : Shared, s3 = { s2 with heap := s2.heap.push { cls := .type "dict", data := .dict #[] } } := ⟨_, rfl⟩
  rw [← e3, ← hD]
  have hh3 : s3.heap = s2.heap.push { cls := .type "dict", data := .dict #[] } := by rw [e3]
  have keep3 : ∀ b o, s2.heap.get? b = some o → s3.heap.get? b = some o := fun b o e => by rw [hh3]; exact Heap.get?_push_of_some _ e
  have I3 : Inv X pins σ (upd H2 D (.dT [])) s3 := by
    have z := I2.laid (a := D) (o := .dT []) (t' := s2.toks) (h' := s3.heap) keep3 (Nat.le_of_eq hD.symm) (by rw [hh3, hD]; exact dt_empty s2.heap I2.big)
    rw [e3] at z ⊢
    exact z
  obtain ⟨W0, ⟨m0, w0⟩, turn⟩ := q D (I2.hok.fresh (Nat.le_of_eq hD.symm))
  have f3 : ∀ b ∈ fp, FpOk X pins (upd H2 D (.dT [])) b ∧ b < s3.heap.objs.size := fun b hb => by
    have lt := small b hb
    refine ⟨⟨?_, (f2 b hb).2⟩, by rw [hh3, Heap.size_push]; exact Nat.lt_succ_of_lt lt⟩
    rw [upd_ne (by rw [hD]; exact Nat.ne_of_lt lt)]
    exact (f2 b hb).1
  have I4 := block_start I3 ok hN f3
  have keep4 : ∀ b o, s3.heap.get? b = some o → (pushCells (s3.heap.push { cls := .type "dict", data := .dict #[] }) scope.names).get? b = some o := fun b o e => pushCells_keeps _ _ _ _ (Heap.get?_push_of_some _ e)
  have t4 : tn 0 (pushCells (s3.heap.push { cls := .type "dict", data := .dict #[] }) scope.names) := T.keep _ _ _ t2 fun b _ o e => keep4 _ _ (keep3 _ _ e)
  show codeAny _ _ (.compStart (.DictComp kx vx [⟨tg, iter, ifs, 0⟩] scope pos) 0 (.ref it) (.ref D) (compEnvC scope (cellsFrom (s3.heap.objs.size + 1) scope.names (cloFrom X.env.cells scope.names [])) s3.heap.objs.size X.env))
    (compPost (model X.prog X.w) X.A X.xe use Qf (.ref D) s3.heap.objs.size) { s3 with heap := pushCells (s3.heap.push { cls := .type "dict", data := .dict #[] }) scope.names }
  have loop := loopD (D := D) (scope := scope) (pos := pos) (iter := iter) (Y := X.blk s3 (upd H2 D (.dT [])) scope (compEnvC scope (cellsFrom (s3.heap.objs.size + 1) scope.names (cloFrom X.env.cells scope.names [])) s3.heap.objs.size X.env) fp)
    (R := compPost (model X.prog X.w) X.A X.xe use Qf (.ref D) s3.heap.objs.size)
    T hc hu (hg _ _ _ _ _) (ht _ _ _ _ _) (hk _ _ _ _ _) (he _ _ _ _ _)
    (fun s' H' σ' I' nn b hb => ⟨nn b hb, (I'.ok.exf b hb).1, I'.ok.exfs b hb, .inl hb, fun x c e => (I'.ok.exf b hb).2 x c e, fun p hp => absurd (show p ∈ ([] : List (Addr × Obj)) ++ [] from hp) (by simp)⟩)
    turn (fun s' H' I' qd => ?_) (fun u s' x => x) w0 I4 t4 (fun b hb => (f3 b hb).1.1)
  · exact codeAny_compStart_dict loop (T.self X.A 0 _ _ _ t4 loop)
  · have J : Inv X pins σ H' s' := I3.call' (ch := fp) I'.os I'.base I'.hok I'.bare fun b hb => ⟨(f3 b hb).1.2.2.2.1, (f3 b hb).1.2.1, (f3 b hb).1.2.2.2.2.1, (f3 b hb).1.2.2.2.2.2⟩
    obtain ⟨m, hn, _⟩ := I'.loc
    exact hRR D _ s' m H' J qd hn (I3.fpOk (Nat.le_refl _) I'.free)
theorem pe_dcT {kx vx tg iter : Expr} {ifs : List Expr} {scope : Scope} {own : List (Str × Nat)} {pos : Pos} {wi : TI} {g : TG} {tt : TT} {tk tv : TE} (hc : X.calm = true) (hu : X.A.units < cLine) (hN : X.N.Nodup) (hi : PI X tg iter wi) (ok : BlkOk X.N X.env.scope scope own)
    (hg : InBlk X scope fun Y => PG Y tg g) (ht : InBlk X scope fun Y => PTs Y ifs tt)
    (hk : InBlk X scope fun Y => PE Y kx tk) (he : InBlk X scope fun Y => PE Y vx tv)
    (hs : ∀ x, foldedSetIterable iter X.env x = pure x := by intro _; rfl) : PE X (.DictComp kx vx [⟨tg, iter, ifs, 0⟩] scope pos) (tDcT wi g tt tk tv (own.map (·.2))) := by
  refine ⟨fun pins s σ H Q I h => ?_⟩
  rw [arm_eval_DictComp]
  refine dcT_core hc hu hN I hi ok hg ht hk he hs h fun D C s' m H' I' q hn f => ⟨m, hn, fun h2 sb => ?_⟩
  obtain ⟨f0, f1, f2, f3, f4, f5⟩ := f
  exact ⟨.ref D, H', I'.turned (t' := s'.toks) (fun b o hb e => (sb.2 b hb).trans e) f0 f1 f3 f4 f5, rfl, q⟩
end
end L2

namespace K2
open PySem PySem.Spec PyProof.Rows L2
open PySem.W (dataLt dataLe dataLe_eq dataLt_ints rowLt AllAlike Sortable list_sort_data EachIs alike alikeAll)
/-! ### sorted(d) of a dict whose keys are tuples of ints, in order already -/
def kI (pl : List Int) : List Key := pl.map Sum.inl
theorem kI_v (pl : List Int) : (kI pl).map kV = pl.map V.int := by
  unfold kI
  rw [List.map_map]
  rfl
theorem kI_inj {a b : List Int} (h : kI a = kI b) : a = b := by
  induction a generalizing b with
  | nil =>
    cases b with
    | nil => rfl
    | cons y t => cases h
  | cons x r ih =>
    cases b with
    | nil => cases h
    | cons y t =>
      have h : (Sum.inl x : Key) :: kI r = Sum.inl y :: kI t := h
      injection h with h1 h2
      rw [ih h2, Sum.inl.inj h1]
theorem lexL_lt : ∀ a b : List Int, HT.lexLt a b = decide (a < b)
  | [], [] => rfl
  | [], _ :: _ => by simp [HT.lexLt]
  | _ :: _, [] => by simp [HT.lexLt]
  | x :: xs, y :: ys => by
    rw [HT.lexLt_cons, lexL_lt xs ys]
    by_cases h : x = y
    · simp [h, List.cons_lt_cons_iff]
    · simp [h, List.cons_lt_cons_iff]
def encT (r : List Int) : PyData := .tuple (r.map .int)
theorem encT_lt (a b : List Int) : dataLt (encT a) (encT b) = HT.lexLt a b := by
  rw [lexL_lt, ← dataLt_ints a b]
  rfl
theorem rd_intsL {h : Heap} : ∀ {ns : List Int} {us : List Value}, Vals (ns.map V.int) us → ReadsAll h us (ns.map PyData.int) []
  | [], _, r => by cases r; exact .nil
  | n :: ns, _, r => by
    cases r with
    | cons r1 r2 =>
      obtain ⟨t, rfl⟩ := r1
      exact ReadsAll.cons (as := []) (bs := []) (.int n t) (rd_intsL r2)
section
variable {X : Cx}
theorem rd_tupI {pins : List (Addr × Obj)} {σ : L2.St} {H : Hp} {s : Shared} (I : Inv X pins σ H s) {a : Addr} {ns : List Int} (h : H a = some (.tup (ns.map V.int))) : Reads s.heap (.ref a) (encT ns) [] := by
  obtain ⟨_, its, rv, ot, hot, hct, nt, hdt⟩ := (show ObjOk X.prog X.w H s.heap a (.tup (ns.map V.int)) from I.hok a _ h)
  exact .tuple hot hct hdt (rd_intsL (by simpa using rv))
def AscL (ps : List (List Int)) : Prop := ps.Pairwise fun a b => HT.lexLt a b = true
theorem asc_le {ps : List (List Int)} (h : AscL ps) : ps.Pairwise fun a b => dataLe false encT a b = true := by
  refine h.imp fun {a b} e => ?_
  rw [dataLe_eq]
  show (!dataLt (encT b) (encT a)) = true
  rw [encT_lt, lexL_lt]
  rw [lexL_lt] at e
  have e := of_decide_eq_true e
  rw [decide_eq_false (fun z => List.lt_irrefl _ (List.lt_trans e z))]
  rfl
def KeysAt (H : Hp) (bs : List Addr) (ps : List (List Int)) : Prop := bs.length = ps.length ∧ ∀ (i : Nat) (b : Addr) (r : List Int), bs[i]? = some b → ps[i]? = some r → H b = some (.tup (r.map V.int))
theorem each_zip {h : Heap} {P : Addr → List Int → Prop} : ∀ {bs : List Addr} {ps : List (List Int)}, bs.length = ps.length → (∀ (i : Nat) (b : Addr) (r : List Int), bs[i]? = some b → ps[i]? = some r → P b r) →
    EachIs (fun (v : Value) (p : Addr × List Int) => v = .ref p.1 ∧ P p.1 p.2) (bs.map Value.ref) (bs.zip ps)
  | [], [], _, _ => .nil
  | b :: bs, r :: ps, hl, k => .cons ⟨rfl, k 0 b r rfl rfl⟩ (each_zip (h := h) (by simpa using hl) fun i b r e1 e2 => k (i + 1) b r e1 e2)
  | [], _ :: _, hl, _ => by simp at hl
  | _ :: _, [], hl, _ => by simp at hl
theorem each_refs : ∀ {us : List Value} {zs : List (Addr × List Int)}, EachIs (fun (v : Value) (p : Addr × List Int) => v = .ref p.1) us zs → us = zs.map fun p => Value.ref p.1
  | _, _, .nil => rfl
  | _, _, .cons h t => by rw [List.map_cons, ← each_refs t, h]
def rSortKT : List V → Hp → VK → Prop := fun vs H Q => ∃ (d : Addr) (kvs : List (List Key × V)) (ps : List (List Int)), vs = [.ref d] ∧ Rd H d (.dT kvs) ∧ kvs.map (·.1) = ps.map kI ∧ AscL ps ∧ (∀ r ∈ ps, r ≠ []) ∧ ps.length ≤ 100000 ∧
  ∀ p bs, H p = none → KeysAt H bs ps → Q (.ref p) (upd H p (.lst (bs.map V.ref)))
theorem paired_at {α β : Type} {R : α → β → Prop} : ∀ {xs : List α} {ys : List β}, Paired R xs ys → ∀ (i : Nat) (x : α) (y : β), xs[i]? = some x → ys[i]? = some y → R x y
  | _, _, .nil, i, x, y, e, _ => by simp at e
  | _, _, .cons h t, 0, x, y, e1, e2 => by
    cases e1
    cases e2
    exact h
  | _, _, .cons h t, i + 1, x, y, e1, e2 => paired_at t i x y e1 e2
theorem cr_sortKT (hc : X.calm = true) (hu : X.A.units + 64 < cLine) : CallR X (.builtin "sorted") rSortKT := by
  rintro pins s σ H vs us Q I r ⟨d, kvs, ps, rfl, hd, hks, asc, ne, len, q⟩
  obtain rfl := Vals.ref1 r
  obtain ⟨z, hs, ks, pr, o, es, ep, ho, hx, hdt, he, hn⟩ := (show ObjOk X.prog X.w H s.heap d (.dT kvs) from hd.ok I.hok)
  have l1 : es.size = ks.length := size_of_entries he
  have l2 : kvs.length = ks.length := Paired.length pr
  have l3 : kvs.length = ps.length := by have := congrArg List.length hks; rwa [List.length_map, List.length_map] at this
  refine Calls.call_function_entry PyProof.Rows.kind_sorted PyProof.Rows.plain_sorted PyProof.Rows.entry_sorted (PyProof.Rows.args_sorted1 _) ?_
  unfold Builtin.«sorted»
  refine wpAny_bind (m := checkCount "sorted" 1 1 _) (wpAny_pure ?_)
  refine wpAny_bind (PySem.W.kdu_collect (A := X.A.in1) (kdl_raw hs hx hdt) (I.ok.hd hc) ho (by omega) fun g tk acc kp it => ?_)
  obtain ⟨bs, ebs⟩ : ∃ bs : List Addr, bs = ks.map fun x => x.2.1 := ⟨_, rfl⟩
  have ea : acc.toList = bs.map Value.ref := by
    rw [ebs, List.map_map]
    have hl : acc.toList.length = ks.length := by rw [Array.length_toList, it.1]; exact l1
    refine List.ext_getElem? fun j => ?_
    rw [List.getElem?_map]
    cases hj : acc.toList[j]? with
    | none => rw [List.getElem?_eq_none (by have := List.getElem?_eq_none_iff.mp hj; omega)]; rfl
    | some v =>
      obtain ⟨en, hen, hv⟩ := it.2 j v (by rw [← Array.getElem?_toList]; exact hj)
      have qe := entry_at he j
      rw [hen] at qe
      cases hk : ks[j]? with
      | none => rw [hk] at qe; cases qe
      | some x =>
        rw [hk] at qe
        have : entryOfKey (tupleKind (mixKind X.prog X.w)) x = en := (Option.some.inj qe).symm
        rw [hv, ← this]
        rfl
  have lb : bs.length = ps.length := by rw [ebs, List.length_map]; omega
  have kat : KeysAt H bs ps := ⟨lb, fun i b p e1 e2 => by
    rw [ebs, List.getElem?_map] at e1
    cases hk : ks[i]? with
    | none => rw [hk] at e1; cases e1
    | some x =>
      rw [hk] at e1
      obtain rfl : x.2.1 = b := Option.some.inj e1
      have il : i < kvs.length := by rw [l2]; exact (List.getElem?_eq_some_iff.mp hk).1
      have hkv := List.getElem?_eq_getElem il
      have := paired_at pr i _ x hkv hk
      have e3 : (kvs.map (·.1))[i]? = some kvs[i].1 := by rw [List.getElem?_map, hkv]; rfl
      rw [hks, List.getElem?_map, e2] at e3
      have e4 : kI p = kvs[i].1 := Option.some.inj e3
      rw [this.2.1, ← e4, kI_v]⟩
  have I1 : Inv X pins σ H { s with heap := g, toks := tk } := I.kept kp
  refine wpAny_bind (wpAny_newList ?_ (by rw [ea, List.length_map]; show bs.length ≤ sizeLine; exact Nat.le_trans (by omega) (show 100000 ≤ sizeLine by decide)))
  have hoL : (g.push (seqObj "list" acc.toList.toArray 0)).get? g.objs.size = some (seqObj "list" acc.toList.toArray 0) := Heap.get?_push_size _ rfl
  have I2 : Inv X pins σ H { s with heap := g.push (seqObj "list" acc.toList.toArray 0), toks := tk } := I.kept fun b o e => Heap.get?_push_of_some _ (kp b o e)
  show wpAny _ _ _ _ _ { s with heap := g.push (seqObj "list" acc.toList.toArray 0), toks := tk }
  have zl : (bs.zip ps).length = ps.length := by rw [List.length_zip]; omega
  have inr : ∀ p ∈ bs.zip ps, p.2 ∈ ps := fun p hp => (List.of_mem_zip (a := p.1) (b := p.2) hp).2
  have e0 : EachIs (fun (v : Value) (p : Addr × List Int) => v = .ref p.1 ∧ H p.1 = some (.tup (p.2.map V.int))) acc.toList (bs.zip ps) := by rw [ea]; exact each_zip (h := g) lb fun i b r => kat.2 i b r
  refine wpAny_bind (wpAny_holding (list_sort_data (s := { s with heap := g.push (seqObj "list" acc.toList.toArray 0), toks := tk }) (enc := fun p : Addr × List Int => encT p.2) (bs := bs.zip ps) (R := fun v p => v = .ref p.1) hoL (e0.mono fun _ _ h => h.1)
    (e0.mono fun v p h => ⟨[], by rw [h.1]; exact rd_tupI I2 h.2, by simp⟩) (fun d hd d' hd' => ?_) (.inl fun d hd => ?_) (by rw [zl]; exact Nat.le_trans len (by decide)) (fun p hp => ?_) fun out ol ho => ?_))
  · obtain ⟨p, _, rfl⟩ := List.mem_map.mp hd
    obtain ⟨p', _, rfl⟩ := List.mem_map.mp hd'
    exact PySem.W.alike_ints _ _
  · obtain ⟨p, hp, rfl⟩ := List.mem_map.mp hd
    cases e : p.2 with
    | nil => exact absurd e (ne _ (inr p hp))
    | cons x r => exact ⟨.int x, r.map .int, rfl⟩
  · have : (encT p.2).depth ≤ 1 := by
      show PyData.depth (.tuple (p.2.map .int)) ≤ 1
      simp only [PyData.depth]
      rw [PySem.W.depth_ints]
      exact Nat.le_refl _
    show X.A.in1.units + 1 + _ < cLine
    have hx : X.A.in1.units ≤ X.A.units + 1 := Nat.le_refl _
    omega
  have hm : (bs.zip ps).mergeSort (dataLe false fun p : Addr × List Int => encT p.2) = bs.zip ps := by
    refine List.mergeSort_of_pairwise ?_
    have h2 : (bs.zip ps).map (·.2) = ps := List.map_snd_zip (by omega)
    have h3 := asc_le asc
    rw [← h2, List.pairwise_map] at h3
    exact h3
  rw [hm] at ho
  have eo : out = bs.map Value.ref := by
    rw [each_refs ho]
    have h2 : (bs.zip ps).map (·.1) = bs := List.map_fst_zip (by omega)
    conv => rhs; rw [← h2]
    rw [List.map_map]
    rfl
  have hb0 : Vals (bs.map V.ref) (bs.map Value.ref) := vals_refs bs
  obtain ⟨e', he'⟩ := PyProof.Rows.sortedHeap_at (vs := acc.toList) (out := (List.toArray out)) hoL
  refine wpAny_pure ⟨_, rfl, .ref g.objs.size, upd H g.objs.size (.lst (bs.map V.ref)), I1.laid (t' := tk) (fun b u e => ?_) (Nat.le_refl _)
    (show ObjOk X.prog X.w _ _ _ (.lst (bs.map V.ref)) from ⟨by rw [List.length_map]; exact Nat.le_trans (by omega) (show 100000 ≤ sizeLine by decide), out, e', by rw [eo]; exact hb0, he'⟩), rfl, q _ _ (I1.hok.fresh (Nat.le_refl _)) kat⟩
  have hb : b < g.objs.size := Heap.lt_size e
  rw [PyProof.Rows.sortedHeap_old (Nat.ne_of_lt hb) (by rw [size_push']; exact Nat.lt_succ_of_lt hb)]
  exact Heap.get?_push_of_some _ e
end
end K2

namespace K2
open PySem PySem.Spec PyProof.Rows L2
/-! ### max(d, default=c) of a dict whose keys are ints, in order already -/
section
variable {X : Cx}
theorem best_asc {bt : Nat → Nat → Bool} {n : Nat} (h : ∀ i j, j < i → i < n → bt i j = true) : ∀ k, k < n → argBest bt k = k
  | 0, _ => rfl
  | k + 1, hk => by
    have ih := best_asc h k (Nat.lt_of_succ_lt hk)
    show (if bt (k + 1) (argBest bt k) = true then k + 1 else argBest bt k) = k + 1
    rw [ih, if_pos (h _ _ (Nat.lt_succ_self k) hk)]
def rMaxDI : List V → List V → Hp → VK → Prop := fun vs zs H Q => ∃ (a : Addr) (c : V) (kvs : List (Key × V)) (ks : List Int), vs = [.ref a] ∧ zs = [c] ∧ Rd H a (.dK kvs) ∧ kvs.map (·.1) = ks.map Sum.inl ∧ ks.Pairwise (· < ·) ∧
  (ks = [] → Q c H) ∧ ∀ m, ks.getLast? = some m → Q (.int m) H
theorem moved_back {s s' : Shared} {oI : Obj} {G : Array GenState → Array GenState → Prop} (hG : ∀ a b, G a b → b = a) (m : Moved [s.heap.objs.size] G { s with heap := s.heap.push oI } s') : ∃ g tk, s' = { s with heap := g, toks := tk } ∧ ∀ b o, s.heap.get? b = some o → g.get? b = some o := by
  refine ⟨s'.heap, s'.toks, ?_, fun b o e => m.heap b o (fun hb => ?_) (Heap.get?_push_of_some _ e)⟩
  · have h1 := hG _ _ m.gens
    have h2 := m.drawn
    have h3 := m.os
    cases s'
    cases h1
    cases h2
    cases h3
    rfl
  · rw [List.mem_singleton.mp hb] at e
    exact Nat.lt_irrefl _ (Heap.lt_size e)
theorem cr_maxDI (hc : X.calm = true) : CallRK X (.builtin "max") ["default"] rMaxDI := by
  rintro pins s σ H vs zs us ws Q I r rz ⟨a, c, kvs, ks, rfl, rfl, hd, hks, asc, q0, q1⟩
  rw [Vals.ref1 r]
  obtain ⟨d, rfl, rd⟩ := vals1 rz
  obtain ⟨z, lo, xs, rel, dd⟩ := dk_rd I.hok hd
  obtain ⟨ep, hat⟩ := dd.dictAt
  have hx : xs.map (·.1) = ks.map Sum.inl := rel.keys.symm.trans hks
  have hl : xs.length = ks.length := by have := congrArg List.length hx; rwa [List.length_map, List.length_map] at this
  obtain ⟨oI, St, hit, W, st⟩ := (PySem.W.kdl_dict (knd := mixKind X.prog X.w) (kvs := xs) (ep := ep) lo).iter X.A.in1 s (I.ok.hd hc) hat
  have key : ∀ (i : Nat) (v : Value), (∃ k x, xs[i]? = some (k, x) ∧ (mixKind X.prog X.w).is k v = true) → ∃ (n : Int) (t : Tok), ks[i]? = some n ∧ v = .int n t := fun i v ⟨k, x, e1, e2⟩ => by
    have e3 : (xs.map (·.1))[i]? = some k := by rw [List.getElem?_map, e1]; rfl
    rw [hx, List.getElem?_map] at e3
    cases e4 : ks[i]? with
    | none => rw [e4] at e3; cases e3
    | some n =>
      rw [e4] at e3
      obtain rfl : (Sum.inl n : Key) = k := Option.some.inj e3
      obtain ⟨t, ev⟩ := Value.isInt_shape (k := n) (v := v) e2
      exact ⟨n, t, rfl, ev⟩
  refine call_max_walkD (hit _ _ ⟨_, _, _, _, _, _, _, s.heap, (fun i j => decide (ks.getD j 0 < ks.getD i 0)), rfl, W.toS, st, fun b hb => ?_, fun b o e hb => ?_, fun b o e => Heap.get?_push_of_some _ e, fun h0 s' m => ?_, fun hp => ⟨fun i j vi vj s' Q' E' _ hi hj hq => ?_, fun v s' hv m => ?_⟩⟩)
  · show b < (s.heap.push oI).objs.size
    rw [Heap.size_push]
    simp only [List.mem_cons, List.not_mem_nil, or_false] at hb
    rcases hb with rfl | rfl
    · exact Nat.lt_succ_self _
    · exact Nat.lt_succ_of_lt (by obtain ⟨o, _, e, _⟩ := hat; exact Heap.lt_size e)
  · rw [List.mem_singleton.mp hb] at e
    exact Nat.lt_irrefl _ (Heap.lt_size e)
  · obtain ⟨g, tk, rfl, kp⟩ := moved_back (fun _ _ h => h) m
    exact ⟨c, H, I.kept (t' := tk) kp, rd, q0 (List.eq_nil_of_length_eq_zero (by omega))⟩
  · obtain ⟨n1, t1, e1, rfl⟩ := key i vi hi
    obtain ⟨n2, t2, e2, rfl⟩ := key j vj hj
    refine (PyProof.Rows.gt_int (a := n1) (b := n2) ?_ : wpAny _ _ (compareOp .Gt (.int n1 t1) (.int n2 t2)) _ _ _)
    dsimp only at hq
    rw [List.getD_eq_getElem?_getD, List.getD_eq_getElem?_getD, e1, e2] at hq
    exact hq
  · obtain ⟨g, tk, rfl, kp⟩ := moved_back (fun _ _ h => h) m
    have hb := best_asc (bt := fun i j => decide (ks.getD j 0 < ks.getD i 0)) (n := ks.length) (fun i j hji hi => by
      have hj : j < ks.length := Nat.lt_trans hji hi
      have := List.pairwise_iff_getElem.mp asc j i hj hi hji
      rw [List.getD_eq_getElem?_getD, List.getD_eq_getElem?_getD, List.getElem?_eq_getElem hi, List.getElem?_eq_getElem hj]
      exact decide_eq_true this) (xs.length - 1) (by omega)
    rw [hb] at hv
    obtain ⟨n, t, e1, rfl⟩ := key _ _ hv
    refine ⟨.int n, H, I.kept (t' := tk) kp, ⟨t, rfl⟩, q1 n ?_⟩
    rw [List.getLast?_eq_getElem?, ← e1, hl]
end
end K2

namespace K2
open PySem PySem.Spec PyProof.Rows L2
/-! ### len(d) -/
section
variable {X : Cx}
def rLenD : List V → Hp → VK → Prop := fun xs H Q => ∃ (a : Addr) (kvs : List (Key × V)), xs = [.ref a] ∧ Rd H a (.dK kvs) ∧ kvs.length ≤ 1000 ∧ Q (.int (kvs.length : Int)) H
theorem cr_lenD : CallR X (.builtin "len") rLenD := by
  rintro pins s σ H xs us Q I r ⟨a, kvs, rfl, hd, hl, q⟩
  rw [Vals.ref1 r]
  obtain ⟨z, lo, vs, rel, dd⟩ := dk_rd I.hok hd
  have hv : vs.length = kvs.length := by
    have := congrArg List.length rel.keys
    rw [List.length_map, List.length_map] at this
    exact this.symm
  have hp : (1000 : Int) < 2 ^ 63 := by decide
  refine call_len_dict lo dd (by omega) ⟨.int (kvs.length : Int), H, (I.tok _), ⟨_, by rw [hv]⟩, q⟩
end
end K2

namespace K2
open PySem PySem.Spec PyProof.Rows L2
open PySem.SeqAt (EqP eqP_refs EqAt EqIn rcIn_tuples)
/-! ### x != y of equal dicts of pairs (shape, dict of lists) -/
section
variable {prog : Program} {w : World} {A : Around} {E : Value → Shared → Prop} {s : Shared}
/-- all pairs of a stand in b -/
theorem sameAll {nm : String} {a b : Addr} {oa ob : Obj} {es es' : Array DictEntry} {ep ep' : Nat} {Q : Bool → Shared → Prop} (na : (a == sysModules) = false) (nb : (b == sysModules) = false) (ha : s.heap.get? a = some oa) (da : oa.data = .dict es ep) (hb : s.heap.get? b = some ob) (db : ob.data = .dict es' ep')
    (hz : es.size = es'.size) (hf : ∀ (i : Nat) (h : i < es.size), ∃ (j : Nat) (h2 : j < es'.size), (∀ Q' : Option Nat → Shared → Prop, Q' (some j) s → wpAny (model prog w) A (dictFind b es[i].key es[i].hash) Q' E s) ∧ EqP prog w A s es[i].val es'[j].val true) (q : Q true s) :
    wpAny (model prog w) A (Builtin.Dict.samePairs nm a b) Q E s := by
  unfold Builtin.Dict.samePairs Builtin.Dict.showsAll
  rw [if_neg (by rw [na]; decide), if_neg (by rw [nb]; decide)]
  refine wpAny_bind (wpAny_pure (wpAny_bind (wpAny_pure (wpAny_bind (wpAny_dictEntries ha da ?_)))))
  dsimp only
  refine wpAny_bind (wpAny_dictEntries hb db ?_)
  rw [if_neg (by rw [hz]; simp)]
  refine wpAny_bind (wpAny_dictEpoch ha da (wpAny_bind ?_))
  rw [Std.Legacy.Range.forIn_eq_forIn_range']
  simp only [Std.Legacy.Range.size, Nat.sub_zero, Nat.add_sub_cancel, Nat.div_one]
  refine wpAny_forIn_list _ (fun rest st s' => s' = s ∧ st = (none, ()) ∧ ∃ i, rest = List.range' i (es.size - i) ∧ i ≤ es.size) _ ?_ ?_ _ _ ⟨rfl, rfl, 0, by simp, Nat.zero_le _⟩
  · rintro x rest st s' ⟨rfl, rfl, i, hr, hi⟩
    have lt : i < es.size := Nat.lt_of_not_le fun z => by
      rw [Nat.sub_eq_zero_of_le z] at hr
      cases hr
    rw [show es.size - i = (es.size - (i + 1)) + 1 from by omega, List.range'_succ] at hr
    obtain ⟨rfl, rfl⟩ : x = i ∧ rest = List.range' (i + 1) (es.size - (i + 1)) := by injection hr with h1 h2; exact ⟨h1, h2⟩
    obtain ⟨j, h2, find, eq⟩ := hf x lt
    refine wpAny_bind (wpAny_dictEntries ha da ?_)
    rw [Array.getElem?_eq_getElem lt]
    show wpAny _ _ (holding [es[x].key, es[x].val] _ >>= _) _ _ _
    refine wpAny_bind (wpAny_holding (wpAny_bind (find _ ?_)))
    refine wpAny_bind (wpAny_dictEntries hb db ?_)
    rw [Array.getElem?_eq_getElem h2]
    refine wpAny_holding (eq _ _ ?_)
    show wpAny _ _ (if (!true) = true then _ else _) _ _ _
    rw [if_neg (by decide)]
    refine wpAny_bind (wpAny_dictEpoch ha da ?_)
    rw [if_neg (by simp)]
    exact wpAny_pure ⟨rfl, rfl, x + 1, rfl, lt⟩
  · rintro st s' ⟨rfl, rfl, i, hr, hi⟩
    exact wpAny_pure q
theorem rcT_eq {a b : Addr} (ta : s.TypeIs (.ref a) "dict") (tb : s.TypeIs (.ref b) "dict") (hu : A.units < cLine) (h : ∀ (nm : String) (E' : Value → Shared → Prop) (Q' : Bool → Shared → Prop), Q' true s → wpAny (model prog w) A.in1 (Builtin.Dict.samePairs nm a b) Q' E' s) (E Q : Value → Shared → Prop) (q : Q (.bool true) s) :
    wpAny (model prog w) A (richCompare .Eq (.ref a) (.ref b)) Q E s := by
  refine wpAny_richCompare_same_room (op := .Eq) ta tb PySem.F.slot_dict_eq (wpAny_call_entry PySem.F.slot_dict_eq ta PySem.F.entry_dict_eq ?_ (PySem.F.args_dict_eq_2 _ _)) hu
  show wpAny _ _ (Builtin.Dict.dictSlotArgs "__eq__" ⟨[.ref a, .ref b], []⟩ >>= _) _ _ s
  refine wpAny_bind ?_
  unfold Builtin.Dict.dictSlotArgs
  refine wpAny_bind (wpAny_notOrdered_dict ta (wpAny_pure (wpAny_bind (wpAny_isInstance (T := "dict") tb PySem.F.sub_dict_dict ?_))))
  simp only [Bool.not_true, Bool.false_eq_true, if_false]
  refine wpAny_bind (wpAny_pure (wpAny_bind (wpAny_pure (wpAny_bind (h _ _ _ (wpAny_pure ⟨_, rfl, (fun x => nomatch x), ?_⟩))))))
  exact q
theorem rcT_ne {a b : Addr} (ta : s.TypeIs (.ref a) "dict") (tb : s.TypeIs (.ref b) "dict") (hu : A.units < cLine) (h : ∀ (nm : String) (E' : Value → Shared → Prop) (Q' : Bool → Shared → Prop), Q' true s → wpAny (model prog w) A.in1 (Builtin.Dict.samePairs nm a b) Q' E' s) (E Q : Value → Shared → Prop) (q : Q (.bool false) s) :
    wpAny (model prog w) A (compareOp .NotEq (.ref a) (.ref b)) Q E s := by
  refine wpAny_richCompare_same_room (op := .NotEq) ta tb PySem.F.slot_dict_ne (wpAny_call_entry PySem.F.slot_dict_ne ta PySem.F.entry_dict_ne ?_ (PySem.F.args_dict_ne_2 _ _)) hu
  show wpAny _ _ (Builtin.Dict.dictSlotArgs "__ne__" ⟨[.ref a, .ref b], []⟩ >>= _) _ _ s
  refine wpAny_bind ?_
  unfold Builtin.Dict.dictSlotArgs
  refine wpAny_bind (wpAny_notOrdered_dict ta (wpAny_pure (wpAny_bind (wpAny_isInstance (T := "dict") tb PySem.F.sub_dict_dict ?_))))
  simp only [Bool.not_true, Bool.false_eq_true, if_false]
  refine wpAny_bind (wpAny_pure (wpAny_bind (wpAny_pure (wpAny_bind (h _ _ _ (wpAny_pure ⟨_, rfl, (fun x => nomatch x), ?_⟩))))))
  exact q
end
section
variable {X : Cx}
def LstEq (H : Hp) (x y : V) : Prop := ∃ (l1 l2 : Addr) (ns : List Int), x = .ref l1 ∧ y = .ref l2 ∧ H l1 = some (.lst (ns.map V.int)) ∧ H l2 = some (.lst (ns.map V.int))
def DctEq (H : Hp) (x y : V) : Prop := ∃ c1 c2 us vs, x = .ref c1 ∧ y = .ref c2 ∧ H c1 = some (.dT us) ∧ H c2 = some (.dT vs) ∧ us.length = vs.length ∧ ∀ p ∈ us, ∃ z, valV vs p.1 = some z ∧ LstEq H p.2 z
def PrEq (H : Hp) (x y : V) : Prop := ∃ (t1 t2 sh : Addr) (c1 c2 : V), x = .ref t1 ∧ y = .ref t2 ∧ H t1 = some (.tup [.ref sh, c1]) ∧ H t2 = some (.tup [.ref sh, c2]) ∧ DctEq H c1 c2
def rNeMod : R2 := fun x y H Q => ∃ a b ks ls, x = .ref a ∧ y = .ref b ∧ H a = some (.dK ks) ∧ H b = some (.dK ls) ∧ ks.length = ls.length ∧ (∀ p ∈ ks, ∃ z, valV ls p.1 = some z ∧ PrEq H p.2 z) ∧ Q (.bl false) H
theorem lst_eqP {pins : List (Addr × Obj)} {σ : L2.St} {H : Hp} {s : Shared} (I : Inv X pins σ H s) {A : Around} (hu : A.units + 70 < cLine) {x y : V} {u v : Value} (rx : RelV x u) (ry : RelV y v) (h : LstEq H x y) : EqP X.prog X.w A s u v true := by
  obtain ⟨l1, l2, ns, rfl, rfl, h1, h2⟩ := h
  obtain rfl : u = Value.ref l1 := rx
  obtain rfl : v = Value.ref l2 := ry
  by_cases e : l1 = l2
  · subst e
    exact (EqAt.same (A := A) (s := s) (.ref l1)).eqP
  obtain ⟨_, i1, n1, r1, p1⟩ := (show ObjOk X.prog X.w H s.heap l1 (.lst (ns.map V.int)) from I.hok l1 _ h1)
  obtain ⟨_, i2, n2, r2, p2⟩ := (show ObjOk X.prog X.w H s.heap l2 (.lst (ns.map V.int)) from I.hok l2 _ h2)
  have q1 : Reads s.heap (.ref l1) (.list (ns.map PyData.int)) [l1] := .list (as := []) p1 rfl rfl (rd_intsL (by simpa using r1))
  have q2 : Reads s.heap (.ref l2) (.list (ns.map PyData.int)) [l2] := .list (as := []) p2 rfl rfl (rd_intsL (by simpa using r2))
  have sh : SeqAt.shaped (.list (ns.map PyData.int)) = true := PySem.W.shaped_ints ns
  have := SeqAt.eqAt_reads _ _ A s _ _ _ _ q1 q2 (SeqAt.canLay_of_shaped sh) (SeqAt.canLay_of_shaped sh) (SeqAt.room_of_shaped sh (by omega))
  rw [SeqAt.eqv_refl _ (by first | exact sh | exact SeqAt.canLay_of_shaped sh)] at this
  exact this.eqP
theorem at_key {K : Type} [DecidableEq K] {xs : List (K × Addr × Value)} {k : K} {p : Addr × Value} (h : atKey xs k = some p) : ∃ (j : Nat) (q : Addr × Value), xs[j]? = some (k, q) := by
  apply Classical.byContradiction
  intro n
  rw [atKey_none_of_get fun j q e => n ⟨j, q, e⟩] at h
  cases h
theorem dct_eqP {pins : List (Addr × Obj)} {σ : L2.St} {H : Hp} {s : Shared} (I : Inv X pins σ H s) {A : Around} (hu : A.units + 80 < cLine) {x y : V} {u v : Value} (rx : RelV x u) (ry : RelV y v) (h : DctEq H x y) : EqP X.prog X.w A s u v true := by
  obtain ⟨c1, c2, us, vs, rfl, rfl, h1, h2, len, al⟩ := h
  obtain rfl : u = Value.ref c1 := rx
  obtain rfl : v = Value.ref c2 := ry
  by_cases e : c1 = c2
  · subst e
    exact (EqAt.same (A := A) (s := s) (.ref c1)).eqP
  obtain ⟨_, lo1, xs, rel1, d1⟩ := dt_of I.hok h1
  obtain ⟨_, lo2, ys, rel2, d2⟩ := dt_of I.hok h2
  refine eqP_refs e (rcT_eq d1.typeIs d2.typeIs (by omega) fun nm E' Q' q => ?_)
  obtain ⟨o1, es, ep, ho1, _, hd1, he1, is1, _⟩ := d1
  obtain ⟨o2, es', ep', ho2, _, hd2, he2, is2, hn2⟩ := d2
  have z1 : es.size = xs.length := size_of_entries he1
  have z2 : es'.size = ys.length := size_of_entries he2
  have l1 := Paired.length rel1
  have l2 := Paired.length rel2
  have a1 : A.in1.units = A.units + 1 := rfl
  refine sameAll lo1 lo2 ho1 hd1 ho2 hd2 (by omega) (fun i hi => ?_) q
  have ix : i < xs.length := by omega
  have iu : i < us.length := by omega
  obtain ⟨k, b, r⟩ : ∃ k b, xs[i] = (k, b) := ⟨_, _, rfl⟩
  have ex : xs[i]? = some (k, b) := by rw [List.getElem?_eq_getElem ix, r]
  obtain ⟨k1, _, rv⟩ := paired_at rel1 i us[i] (k, b) (List.getElem?_eq_getElem iu) ex
  have ee : es[i] = entryOfKey (tupleKind (mixKind X.prog X.w)) (k, b) := by
    have := entry_at he1 i
    rw [ex, Array.getElem?_eq_getElem hi] at this
    exact Option.some.inj this
  obtain ⟨zv, hz, leq⟩ := al us[i] (List.getElem_mem iu)
  have k1 : us[i].1 = k := k1
  rw [k1] at hz
  have rO := rel2.val k
  rw [hz] at rO
  obtain ⟨w', hw, rw'⟩ := RelO.some_of (v := zv) (o := (atKey ys k).map (·.2)) rO
  obtain ⟨p, hp, hp2⟩ := Option.map_eq_some_iff.mp hw
  obtain ⟨j, p', hj⟩ := at_key hp
  rw [atKey_of_get hn2 hj] at hp
  obtain rfl := Option.some.inj hp
  have jl : j < es'.size := by rw [z2]; exact (List.getElem?_eq_some_iff.mp hj).1
  have ee2 : es'[j] = entryOfKey (tupleKind (mixKind X.prog X.w)) (k, p') := by
    have := entry_at he2 j
    rw [hj, Array.getElem?_eq_getElem jl] at this
    exact Option.some.inj this
  refine ⟨j, jl, fun Q'' q'' => ?_, ?_⟩
  · rw [ee]
    refine wpAny_dictFind_heap (knd := tupleKind (mixKind X.prog X.w)) (a := b.1) (k := k) (by first | exact (show A.in1.units < cLine by omega) | exact tupleKind_room (show A.in1.units < cLine by omega)) (is1 _ (List.mem_of_getElem? ex)) ho2 hd2 he2 is2 hn2 (fun n => absurd hj (n _ _)) fun j2 p2 e2 => ?_
    rw [idxH_unique hn2 e2 hj]
    exact q''
  · rw [ee, ee2]
    have r2 : RelV zv p'.2 := by rw [hp2]; exact rw'
    exact lst_eqP I (by omega) rv r2 leq
theorem pr_eqP {pins : List (Addr × Obj)} {σ : L2.St} {H : Hp} {s : Shared} (I : Inv X pins σ H s) {A : Around} (hu : A.units + 90 < cLine) {x y : V} {u v : Value} (rx : RelV x u) (ry : RelV y v) (h : PrEq H x y) : EqP X.prog X.w A s u v true := by
  obtain ⟨t1, t2, sh, c1, c2, rfl, rfl, h1, h2, de⟩ := h
  obtain rfl : u = Value.ref t1 := rx
  obtain rfl : v = Value.ref t2 := ry
  by_cases e : t1 = t2
  · subst e
    exact (EqAt.same (A := A) (s := s) (.ref t1)).eqP
  obtain ⟨its1, r1, p1, _⟩ := I.tuple (SqT.of (K := X.K) h1)
  obtain ⟨its2, r2, p2, _⟩ := I.tuple (SqT.of (K := X.K) h2)
  obtain ⟨u1, u2, rfl, q1, q2⟩ := r1.two
  obtain ⟨v1, v2, rfl, w1, w2⟩ := r2.two
  obtain rfl : u1 = Value.ref sh := q1
  obtain rfl : v1 = Value.ref sh := w1
  have a1 : A.in1.units = A.units + 1 := rfl
  refine eqP_refs e fun E Q q => rcIn_tuples (e := fun _ => true) p1 p2 (by omega) (fun j h1 h2 => ?_) ?_
  · have : j = 0 ∨ j = 1 := by
      have : j < 2 := h1
      omega
    rcases this with rfl | rfl
    · exact (EqAt.same (A := A.in1) (s := s) (.ref sh)).eqP
    · exact dct_eqP I (by omega) q2 w2 de
  · exact q
theorem op_neMod (hu : X.A.units + 100 < cLine) : OpR X (compareOp .NotEq) rNeMod := by
  intro pins s σ H x y v u Q I rx ry h
  obtain ⟨a, b, ks, ls, rfl, rfl, ea, eb, hlen, hp, q⟩ := h
  obtain rfl : v = Value.ref a := rx
  obtain rfl : u = Value.ref b := ry
  obtain ⟨_, lo1, xs, rel1, d1⟩ := dk_of I.hok ea
  obtain ⟨_, lo2, ys, rel2, d2⟩ := dk_of I.hok eb
  refine rcT_ne d1.typeIs d2.typeIs (by omega) (fun nm E' Q' q' => ?_) _ _ ⟨.bl false, H, I, rfl, q⟩
  have l1 := rel1.length
  have l2 := rel2.length
  have a1 : X.A.in1.units = X.A.units + 1 := rfl
  refine PySem.W.samePairsP (r := true) lo1 lo2 d1 d2 (fun _ => ?_) (by
    rw [show (xs.length == ys.length && true) = true from by rw [Bool.and_true, beq_iff_eq]; omega]
    exact q')
  have key : ∀ (r : List (Key × Value)) (ks' : List (Key × V)), KV ks' r → (∀ p ∈ ks', p ∈ ks) → PySem.W.KeqHitsP X.prog X.w X.A.in1 s ys r true := fun r ks' rr => by
    induction rr with
    | nil => exact fun _ => .nil
    | @cons p q ps qs h1 h2 ih =>
      intro hm
      obtain ⟨zv, hz, pe⟩ := hp p (hm p List.mem_cons_self)
      obtain ⟨w', hw, rw'⟩ := RelO.some_of (v := zv) (o := valueAt ys p.1) (by rw [← hz]; exact rel2.val p.1)
      obtain ⟨k, v⟩ := q
      obtain ⟨e1, e2⟩ := h1
      have e1 : p.1 = k := e1
      exact .hit (e := true) (b := true) (by rw [← e1]; exact hw) (pr_eqP I (by omega) e2 rw' pe) (ih fun p' hp' => hm p' (List.mem_cons_of_mem _ hp'))
  exact key _ _ rel1 fun p h => h
end
end K2

namespace K2
open PySem L2
/-! ### dicts by the lists of their items -/
theorem All.len {α : Type} {R : V → α → Prop} {xs : List V} {l : List α} (h : All R xs l) : xs.length = l.length := h.1
section
variable {K' : Type} [DecidableEq K'] {α : Type}
theorem zip_get {key : α → K'} {l : List α} {xs : List V} (nd : (l.map key).Nodup) (hl : xs.length = l.length) {i : Nat} {a : α} {x : V} (h1 : l[i]? = some a) (h2 : xs[i]? = some x) : valV ((l.map key).zip xs) (key a) = some x := by
  induction l generalizing xs i with
  | nil => simp at h1
  | cons b r ih =>
    cases xs with
    | nil => simp at hl
    | cons y ys =>
      rw [List.map_cons, List.nodup_cons] at nd
      have hl : ys.length = r.length := by simpa using hl
      cases i with
      | zero =>
        cases h1
        cases h2
        unfold valV
        rw [List.map_cons, List.zip_cons_cons, List.find?_cons_of_pos (by simp)]
        rfl
      | succ i =>
        have h1 : r[i]? = some a := by simpa using h1
        have h2 : ys[i]? = some x := by simpa using h2
        have ne : key b ≠ key a := fun z => nd.1 (by rw [z]; exact List.mem_map.mpr ⟨a, List.mem_of_getElem? h1, rfl⟩)
        have := ih nd.2 hl h1 h2
        unfold valV at this ⊢
        rw [List.map_cons, List.zip_cons_cons, List.find?_cons_of_neg (by simpa using ne)]
        exact this
theorem zip_none {key : α → K'} {l : List α} {xs : List V} {k : K'} (h : k ∉ l.map key) : valV ((l.map key).zip xs) k = none := by
  unfold valV
  rw [Option.map_eq_none_iff, List.find?_eq_none]
  intro p hp
  have := (List.of_mem_zip (a := p.1) (b := p.2) hp).1
  simp only [decide_eq_true_eq]
  exact fun z => h (z ▸ this)
theorem zip_keys {key : α → K'} {l : List α} {xs : List V} (hl : xs.length = l.length) : ((l.map key).zip xs).map (·.1) = l.map key := List.map_fst_zip (by rw [List.length_map]; omega)
theorem zip_len {key : α → K'} {l : List α} {xs : List V} (hl : xs.length = l.length) : ((l.map key).zip xs).length = l.length := by
  rw [List.length_zip, List.length_map]
  omega
theorem zip_push {key : α → K'} {l : List α} {xs : List V} (hl : xs.length = l.length) {a : α} {x : V} (n : key a ∉ l.map key) : putK ((l.map key).zip xs) (key a) x = ((l ++ [a]).map key).zip (xs ++ [x]) := by
  have e : (((l.map key).zip xs).any fun kv => decide (kv.1 = key a)) = false := by
    rw [Bool.eq_false_iff]
    intro z
    obtain ⟨p, hp, h⟩ := List.any_eq_true.mp z
    have := (List.of_mem_zip (a := p.1) (b := p.2) hp).1
    exact n (of_decide_eq_true h ▸ this)
  unfold putK
  rw [e, if_neg (by decide), List.map_append, List.zip_append (by rw [List.length_map]; omega)]
  rfl
end
def DkM {α : Type} (H : Hp) (key : α → Key) (R : V → α → Prop) (y : V) (l : List α) : Prop := ∃ a xs, y = .ref a ∧ H a = some (.dK ((l.map key).zip xs)) ∧ All R xs l
def DtM {α : Type} (H : Hp) (key : α → List Key) (R : V → α → Prop) (y : V) (l : List α) : Prop := ∃ a xs, y = .ref a ∧ H a = some (.dT ((l.map key).zip xs)) ∧ All R xs l
theorem DkM.same {α : Type} {H H1 : Hp} {key : α → Key} {R S : V → α → Prop} {y : V} {l : List α} (h : DkM H key R y l) (s : Same H H1) (k : ∀ x a, R x a → S x a) : DkM H1 key S y l := let ⟨a, xs, e1, e2, e3⟩ := h; ⟨a, xs, e1, s _ _ e2, e3.imp k⟩
theorem DtM.same {α : Type} {H H1 : Hp} {key : α → List Key} {R S : V → α → Prop} {y : V} {l : List α} (h : DtM H key R y l) (s : Same H H1) (k : ∀ x a, R x a → S x a) : DtM H1 key S y l := let ⟨a, xs, e1, e2, e3⟩ := h; ⟨a, xs, e1, s _ _ e2, e3.imp k⟩
/-! ### the records of a store -/
def RcAt (H : Hp) (x : V) (c : Ck) : Prop := RowAt H [.int c.o, .int c.l] x
def CsD (H : Hp) (y : V) (cs : List Ck) : Prop := DtM H (fun c : Ck => kI c.c) (RcAt H) y cs
def ArD (H : Hp) (C : Addr) (y : V) (r : Ar) : Prop := ∃ a u v, y = .ref a ∧ H a = some (.tup [u, v]) ∧ ShAt H C u r.ds r.ts ∧ CsD H v r.cs
def AsD (H : Hp) (C : Addr) (y : V) (as : List Ar) : Prop := DkM H (fun r : Ar => Sum.inr r.n) (ArD H C) y as
def VsD (H : Hp) (C : Addr) (y : V) (rs : List Ve) : Prop := DkM H (fun r : Ve => Sum.inl r.no) (fun y r => AsD H C y r.as) y rs
theorem RcAt.same {H H1 : Hp} {x : V} {c : Ck} (h : RcAt H x c) (s : Same H H1) : RcAt H1 x c := RowAt.same h s
theorem CsD.same {H H1 : Hp} {y : V} {cs : List Ck} (h : CsD H y cs) (s : Same H H1) : CsD H1 y cs := DtM.same h s fun _ _ z => z.same s
theorem ArD.same {H H1 : Hp} {C : Addr} {y : V} {r : Ar} (h : ArD H C y r) (s : Same H H1) : ArD H1 C y r := let ⟨a, u, v, e1, e2, e3, e4⟩ := h; ⟨a, u, v, e1, s _ _ e2, e3.same s, e4.same s⟩
theorem AsD.same {H H1 : Hp} {C : Addr} {y : V} {as : List Ar} (h : AsD H C y as) (s : Same H H1) : AsD H1 C y as := DkM.same h s fun _ _ z => z.same s
theorem VsD.same {H H1 : Hp} {C : Addr} {y : V} {rs : List Ve} (h : VsD H C y rs) (s : Same H H1) : VsD H1 C y rs := DkM.same h s fun _ _ z => z.same s
/-! ### arrays as they are handed -/
structure Am where
  n : Str
  ds : List D
  ts : List T
  cs : List (List Int × List Int)
def LsAt (H : Hp) (x : V) (c : List Int × List Int) : Prop := ∃ a, x = .ref a ∧ H a = some (.lst (c.2.map V.int))
def MsD (H : Hp) (y : V) (cs : List (List Int × List Int)) : Prop := DtM H (fun c : List Int × List Int => kI c.1) (LsAt H) y cs
def AmD (H : Hp) (C : Addr) (y : V) (r : Am) : Prop := ∃ a u v, y = .ref a ∧ H a = some (.tup [u, v]) ∧ ShAt H C u r.ds r.ts ∧ MsD H v r.cs
def AmsD (H : Hp) (C : Addr) (y : V) (as : List Am) : Prop := DkM H (fun r : Am => Sum.inr r.n) (AmD H C) y as
theorem LsAt.same {H H1 : Hp} {x : V} {c : List Int × List Int} (h : LsAt H x c) (s : Same H H1) : LsAt H1 x c := let ⟨a, e1, e2⟩ := h; ⟨a, e1, s _ _ e2⟩
theorem MsD.same {H H1 : Hp} {y : V} {cs : List (List Int × List Int)} (h : MsD H y cs) (s : Same H H1) : MsD H1 y cs := DtM.same h s fun _ _ z => z.same s
theorem AmD.same {H H1 : Hp} {C : Addr} {y : V} {r : Am} (h : AmD H C y r) (s : Same H H1) : AmD H1 C y r := let ⟨a, u, v, e1, e2, e3, e4⟩ := h; ⟨a, u, v, e1, s _ _ e2, e3.same s, e4.same s⟩
theorem AmsD.same {H H1 : Hp} {C : Addr} {y : V} {as : List Am} (h : AmsD H C y as) (s : Same H H1) : AmsD H1 C y as := DkM.same h s fun _ _ z => z.same s
/-! ### octets of records -/
def recO (D : List Int) (c : Ck) : List Int := (D.drop (c.o.toNat + 4)).take c.l.toNat
structure Okc (D : List Int) (c : Ck) : Prop where
  o : 0 ≤ c.o
  l : 0 ≤ c.l
  le : c.o + 4 + c.l ≤ (D.length : Int)
  s : (D.drop c.o.toNat).take 4 = w4 (sumO (recO D c))
theorem drop_take_app {D X : List Int} {a b : Nat} (h : a + b ≤ D.length) : ((D ++ X).drop a).take b = (D.drop a).take b := by
  rw [List.drop_append_of_le_length (by omega), List.take_append_of_le_length (by rw [List.length_drop]; omega)]
theorem recO_app {D X : List Int} {c : Ck} (h : Okc D c) : recO (D ++ X) c = recO D c := by
  have h1 := h.o
  have h2 := h.l
  have h3 := h.le
  exact drop_take_app (by omega)
theorem Okc.app {D X : List Int} {c : Ck} (h : Okc D c) : Okc (D ++ X) c := by
  have h1 := h.o
  have h2 := h.l
  have h3 := h.le
  refine ⟨h1, h2, by rw [List.length_append]; omega, ?_⟩
  rw [recO_app h, drop_take_app (by omega)]
  exact h.s
theorem recO_len {D : List Int} {c : Ck} (h : Okc D c) : (recO D c).length = c.l.toNat := by
  have h1 := h.o
  have h2 := h.l
  have h3 := h.le
  unfold recO
  rw [List.length_take, List.length_drop]
  omega
/-- a record that was just appended -/
theorem okc_new (D : List Int) (os pl : List Int) : Okc (D ++ (w4 (sumO os) ++ os)) ⟨pl, (D.length : Int), (os.length : Int)⟩ ∧ recO (D ++ (w4 (sumO os) ++ os)) ⟨pl, (D.length : Int), (os.length : Int)⟩ = os := by
  have l4 : (w4 (sumO os)).length = 4 := rfl
  have e : recO (D ++ (w4 (sumO os) ++ os)) ⟨pl, (D.length : Int), (os.length : Int)⟩ = os := by
    show ((D ++ (w4 (sumO os) ++ os)).drop ((D.length : Int).toNat + 4)).take (os.length : Int).toNat = os
    rw [show (D.length : Int).toNat = D.length from by omega, show (os.length : Int).toNat = os.length from by omega]
    rw [← List.append_assoc, List.drop_append_of_le_length (by rw [List.length_append]; omega), List.drop_of_length_le (by rw [List.length_append]; omega), List.nil_append, List.take_length]
  refine ⟨⟨by show (0 : Int) ≤ (D.length : Int); omega, by show (0 : Int) ≤ (os.length : Int); omega, ?_, ?_⟩, e⟩
  · show (D.length : Int) + 4 + (os.length : Int) ≤ _
    rw [List.length_append, List.length_append, l4]
    omega
  · rw [e]
    show ((D ++ (w4 (sumO os) ++ os)).drop (D.length : Int).toNat).take 4 = _
    rw [show (D.length : Int).toNat = D.length from by omega, List.drop_append_of_le_length (Nat.le_refl _), List.drop_of_length_le (Nat.le_refl _), List.nil_append, List.take_append_of_le_length (by rw [l4]; exact Nat.le_refl _), List.take_of_length_le (by rw [l4]; exact Nat.le_refl _)]
def vw (D : List Int) (r : Ar) : Am := ⟨r.n, r.ds, r.ts, r.cs.map fun c => (c.c, recO D c)⟩
def OkV (D : List Int) (rs : List Ve) : Prop := ∀ v ∈ rs, ∀ r ∈ v.as, ∀ c ∈ r.cs, Okc D c
end K2

namespace K2
open PySem L2
def SFf : List Str := ["disk", "_root", "_versions"]
structure CtS (mg : Str → Option Value) : Prop where
  dp : ∃ v, mg "DATA_PREFIX" = some v ∧ RelV (.str "data.") v
  rf : ∃ v, mg "ROOT_FILE" = some v ∧ RelV (.str "root") v
  nf : ∃ v, mg "NEW_ROOT_FILE" = some v ∧ RelV (.str "root.new") v
  sl : ∃ v, mg "SUM_LENGTH" = some v ∧ RelV (.int 4) v
/-- what the store writes -/
def ftS (s d : Addr) (p : DP) (n : Nat) (a : Addr) : Prop := foot d p n a ∨ a = s
def sfs (d ra : Addr) (y : V) : List (Str × V) := [("disk", .ref d), ("_root", .ref ra), ("_versions", y)]
/-- a version as it may be -/
structure WfV (r : Ve) : Prop where
  no : 1 ≤ r.no
  nm : (r.as.map Ar.n).Nodup ∧ PyProof.Rows.sortedS (r.as.map Ar.n) = true
  ln : r.as.length < 64
  ck : ∀ a ∈ r.as, AscL (a.cs.map Ck.c) ∧ (∀ c ∈ a.cs, c.c ≠ []) ∧ a.cs.length ≤ 1000
structure WfR (rs : List Ve) : Prop where
  a : (rs.map Ve.no).Pairwise (· < ·)
  l : rs.length < 64
  v : ∀ r ∈ rs, WfV r
structure StAt (CS CD CC CR C : Addr) (H : Hp) (s d : Addr) (st : DS) (p : DP) (up da : Int) (rs : List Ve) : Prop where
  i : ∃ (dx ra : Addr) (y : V), H s = some (.ins CS dx (sfs d ra y)) ∧ RtAt (hid (ftS s d p st.cs.length) H) CR C (.ref ra) up da rs ∧ VsD (hid (ftS s d p st.cs.length) H) C y rs
  k : DkAt CD CC H d st p
  n : ¬ foot d p st.cs.length s
  g : Nice st
  b : 0 ≤ da ∧ da < 60
  w : WfR rs
section
variable {CS CD CC CR C : Addr} {H H' : Hp} {s d : Addr} {st st' : DS} {p p' : DP} {up da : Int} {rs : List Ve}
theorem StAt.occ (h : StAt CS CD CC CR C H s d st p up da rs) : ∀ a, ftS s d p st.cs.length a → H a ≠ none := fun a f => by
  rcases f with f | rfl
  · exact h.k.nf f
  · obtain ⟨dx, ra, y, e, _⟩ := h.i
    rw [e]
    exact fun z => nomatch z
theorem StAt.same (h : StAt CS CD CC CR C H s d st p up da rs) (m : Same H H') : StAt CS CD CC CR C H' s d st p up da rs := by
  obtain ⟨dx, ra, y, e, r, v⟩ := h.i
  exact ⟨⟨dx, ra, y, m _ _ e, r.same (hid_of_same m), v.same (hid_of_same m)⟩, h.k.same m, h.n, h.g, h.b, h.w⟩
/-- a step of the store -/
structure SSt (H H' : Hp) (s d : Addr) (st st' : DS) (p p' : DP) : Prop where
  o : Out (ftS s d p st.cs.length) H H'
  w : Gw (ftS s d p st.cs.length) (ftS s d p' st'.cs.length) H
theorem SSt.refl : SSt H H s d st st p p := ⟨Out.refl, Gw.refl⟩
theorem SSt.hid (h : SSt H H' s d st st' p p') : Same (hid (ftS s d p st.cs.length) H) (hid (ftS s d p' st'.cs.length) H') := hid_stp h.o h.w
theorem SSt.trans {H2 : Hp} {st2 : DS} {p2 : DP} (h : SSt H H' s d st st' p p') (g : SSt H' H2 s d st' st2 p' p2) : SSt H H2 s d st st2 p p2 := ⟨h.o.trans h.w g.o, h.w.trans h.o g.w⟩
theorem SSt.same (m : Same H H') : SSt H H' s d st st p p := ⟨fun c o e _ => m c o e, Gw.refl⟩
theorem SSt.seq {H2 : Hp} (h : SSt H H' s d st st' p p') (m : Same H' H2) : SSt H H2 s d st st' p p' := h.trans (SSt.same m)
/-- a deed of the disk is one of the store -/
theorem Stp.sst (h : Stp CD CC H H' d st st' p p') : SSt H H' s d st st' p p' := by
  refine ⟨fun c o e n => h.o c o e fun f => n (.inl f), fun c f => ?_⟩
  rcases f with f | rfl
  · rcases h.w c f with z | z
    · exact .inl (.inl z)
    · exact .inr z
  · exact .inl (.inr rfl)
theorem StAt.stp (h : StAt CS CD CC CR C H s d st p up da rs) (m : Stp CD CC H H' d st st' p p') (N : Nice st') : StAt CS CD CC CR C H' s d st' p' up da rs := by
  obtain ⟨dx, ra, y, e, r, v⟩ := h.i
  have ms := (m.sst (s := s)).hid
  refine ⟨⟨dx, ra, y, m.o _ _ e h.n, r.same ms, v.same ms⟩, m.k, fun f => ?_, N, h.b, h.w⟩
  rcases m.w s f with z | z
  · exact h.n z
  · rw [z] at e; cases e
theorem nF {F : Addr → Prop} (occ : ∀ a, F a → H a ≠ none) (m : Same H H') {q : Addr} (n : H' q = none) : ¬ F q := fun f => occ q f (m.free n)
theorem hid_upd {F : Addr → Prop} {q : Addr} {o : HO} (n : ¬ F q) : Same (upd (hid F H) q o) (hid F (upd H q o)) := fun a x e => by
  by_cases z : a = q
  · subst z
    rw [upd_same] at e
    exact hid_mk n (by rw [upd_same]; exact e)
  · rw [upd_ne z] at e
    obtain ⟨f, e⟩ := hid_some e
    exact hid_mk f (by rw [upd_ne z]; exact e)
/-- no text of a root is written by a disk -/
theorem RtAt.kind {F : Addr → Prop} {x : V} (h : RtAt H CR C x up da rs) (k : ∀ a, F a → ∀ o, H a = some o → (∀ r, o ≠ .tup r) ∧ (∀ dx fs, o ≠ .ins CR dx fs) ∧ ∀ dx fs, o ≠ .ins C dx fs) : RtAt (hid F H) CR C x up da rs := by
  have kt : ∀ {a r}, H a = some (.tup r) → K2.hid F H a = some (.tup r) := fun e => hid_mk (fun f => (k _ f _ e).1 _ rfl) e
  obtain ⟨a, dx, u, rfl, e1, b, xs, rfl, e2, al⟩ := h
  refine ⟨a, dx, _, rfl, hid_mk (fun f => (k _ f _ e1).2.1 _ _ rfl) e1, b, xs, rfl, kt e2, al.imp fun x v h => ?_⟩
  obtain ⟨a, u, rfl, e1, b, xs, rfl, e2, al⟩ := h
  refine ⟨a, _, rfl, kt e1, b, xs, rfl, kt e2, al.imp fun x r h => ?_⟩
  obtain ⟨a, u, v, rfl, e1, ⟨sa, dx, su, sv, rfl, e2, ⟨b1, x1, rfl, t1, a1⟩, ⟨b2, x2, rfl, t2, a2⟩⟩, b, xs, rfl, e3, al⟩ := h
  have row : ∀ {r x}, RowAt H r x → RowAt (K2.hid F H) r x := fun ⟨a, e1, e2⟩ => ⟨a, e1, kt e2⟩
  exact ⟨a, _, _, rfl, kt e1, ⟨sa, dx, _, _, rfl, hid_mk (fun f => (k _ f _ e2).2.2 _ _ rfl) e2, ⟨b1, x1, rfl, kt t1, a1.imp fun _ _ z => row z⟩, ⟨b2, x2, rfl, kt t2, a2.imp fun _ _ z => row z⟩⟩, b, xs, rfl, kt e3, al.imp fun x c ⟨a, b, e1, e2, e3⟩ => ⟨a, b, e1, kt e2, kt e3⟩⟩
theorem DkAt.kinds (h : DkAt CD CC H d st p) (n1 : CD ≠ CR) (n2 : CD ≠ C) (n3 : CC ≠ CR) (n4 : CC ≠ C) : ∀ a, foot d p st.cs.length a → ∀ o, H a = some o → (∀ r, o ≠ .tup r) ∧ (∀ dx fs, o ≠ .ins CR dx fs) ∧ ∀ dx fs, o ≠ .ins C dx fs := by
  intro a f o e
  have fin : ∀ {x}, H a = some x → (∀ r, x ≠ .tup r) → (∀ dx fs, x ≠ .ins CR dx fs) → (∀ dx fs, x ≠ .ins C dx fs) → (∀ r, o ≠ .tup r) ∧ (∀ dx fs, o ≠ .ins CR dx fs) ∧ ∀ dx fs, o ≠ .ins C dx fs := fun h1 k1 k2 k3 => by
    rw [e] at h1
    cases h1
    exact ⟨k1, k2, k3⟩
  rcases f with rfl | rfl | rfl | rfl | ⟨i, hi, rfl | rfl⟩
  · obtain ⟨dx, e1⟩ := h.inst
    exact fin e1 (fun _ z => nomatch z) (fun _ _ z => by injection z with z; exact n1 z) (fun _ _ z => by injection z with z; exact n2 z)
  · exact fin h.con (fun _ z => nomatch z) (fun _ _ z => nomatch z) (fun _ _ z => nomatch z)
  · exact fin h.sur (fun _ z => nomatch z) (fun _ _ z => nomatch z) (fun _ _ z => nomatch z)
  · obtain ⟨xs, e1, _⟩ := h.chs
    exact fin e1 (fun _ z => nomatch z) (fun _ _ z => nomatch z) (fun _ _ z => nomatch z)
  · obtain ⟨dx, e1, _⟩ := h.cts i _ (List.getElem?_eq_getElem hi)
    exact fin e1 (fun _ z => nomatch z) (fun _ _ z => by injection z with z; exact n3 z) (fun _ _ z => by injection z with z; exact n4 z)
  · obtain ⟨dx, _, e1⟩ := h.cts i _ (List.getElem?_eq_getElem hi)
    exact fin e1 (fun _ z => nomatch z) (fun _ _ z => nomatch z) (fun _ _ z => nomatch z)
end
theorem dn_len : ∀ i : Nat, i < 60 → (Str.empty ++ ("data." : Str)).length ≤ 100 ∧ (dN (i : Int)).length ≤ 100 ∧ dN (i : Int) ≠ "root" ∧ dN (i : Int) ≠ "root.new" ∧ (i : Int).natAbs.log2 < 1920 := by decide +kernel
theorem dn_nm {i : Int} (h : 0 ≤ i ∧ i < 60) : dN i ∈ NM := by
  obtain ⟨k, rfl⟩ : ∃ k : Nat, i = (k : Int) := ⟨i.toNat, by omega⟩
  exact List.mem_cons_of_mem _ (List.mem_cons_of_mem _ (List.mem_map.mpr ⟨k, List.mem_range.mpr (by omega), rfl⟩))
theorem dn_of {i : Int} (h : 0 ≤ i ∧ i < 60) : (Str.empty ++ ("data." : Str)).length ≤ 100 ∧ (dN i).length ≤ 100 ∧ dN i ≠ "root" ∧ dN i ≠ "root.new" ∧ i.natAbs.log2 < 1920 := by
  obtain ⟨k, rfl⟩ : ∃ k : Nat, i = (k : Int) := ⟨i.toNat, by omega⟩
  exact dn_len k (by omega)
end K2

namespace K2
open PySem L2
def spDF : Sp := fun vs H Q _ => ∃ da : Int, vs = [.int da] ∧ (0 ≤ da ∧ da < 60) ∧ Q (.str (dN da)) H
def spRoot (CS CD CC CR C : Addr) : Sp := fun vs H Q _ => ∃ (s d : Addr) (st : DS) (p : DP) (up da : Int) (rs : List Ve), vs = [.ref s] ∧ StAt CS CD CC CR C H s d st p up da rs ∧ ∀ ra, RtAt (hid (ftS s d p st.cs.length) H) CR C (.ref ra) up da rs → Q (.ref ra) H
def spDN (CS CD CC CR C : Addr) : Sp := fun vs H Q _ => ∃ (s d : Addr) (st : DS) (p : DP) (up da : Int) (rs : List Ve), vs = [.ref s] ∧ StAt CS CD CC CR C H s d st p up da rs ∧ Q (.str (dN da)) H
def spDSz (CS CD CC CR C : Addr) : Sp := fun vs H Q _ => ∃ (s d : Addr) (st : DS) (p : DP) (up da : Int) (rs : List Ve), vs = [.ref s] ∧ StAt CS CD CC CR C H s d st p up da rs ∧ Q (.int (((st.rd (dN da)).getD []).length : Int)) H
def spStd (CS CD CC CR C : Addr) : Sp := fun vs H Q _ => ∃ (s d : Addr) (st : DS) (p : DP) (up da : Int) (rs : List Ve) (D : List Int) (c : Ck), vs = [.ref s, .int c.o, .int c.l] ∧ StAt CS CD CC CR C H s d st p up da rs ∧ st.rd (dN da) = some D ∧ Okc D c ∧
  ∀ H' q, Same H H' → H q = none → H' q = some (.lst ((w4 (sumO (recO D c)) ++ recO D c).map V.int)) → Q (.ref q) H'
def spSO (CS CD CC CR C : Addr) : Sp := fun vs H Q _ => ∃ (s d : Addr) (st : DS) (p : DP) (up da : Int) (rs : List Ve) (D : List Int) (c : Ck), vs = [.ref s, .int c.o, .int c.l] ∧ StAt CS CD CC CR C H s d st p up da rs ∧ st.rd (dN da) = some D ∧ Okc D c ∧
  ∀ H' q, Same H H' → H q = none → H' q = some (.lst ((recO D c).map V.int)) → Q (.ref q) H'
theorem szn (o : Option (List Int)) : decide (szV o = V.non) = o.isNone := by cases o <;> rfl
theorem std_of {D : List Int} {c : Ck} (k : Okc D c) : (D.drop c.o.toNat).take (4 + c.l.toNat) = w4 (sumO (recO D c)) ++ recO D c := by
  have h1 := k.o
  have h2 := k.l
  have h3 := k.le
  have e1 : (D.drop c.o.toNat).take (4 + c.l.toNat) = ((D.drop c.o.toNat).take 4) ++ ((D.drop c.o.toNat).drop 4).take c.l.toNat := by
    rw [List.take_add]
  rw [e1, k.s, List.drop_drop]
  rfl
theorem rd_big {st : DS} (N : Nice st) {n : Str} {o : List Int} (h : st.rd n = some o) : o.length ≤ 900000 := by
  obtain ⟨i, c, _, ec, rfl⟩ := rd_at N.g h
  exact N.o c (List.mem_of_getElem? ec)
section
variable {P : Program} {w : World} {K : PySem.W.Frag} {mg : Str → Option Value} {base : Heap}
theorem sc_df : FnScope ["number"] ["number"] (defScope sDataFile) := ⟨rfl, rfl, rfl, by decide +kernel, rfl, by decide +kernel, by decide +kernel⟩
theorem ok_df {f : Addr} {fd : FuncData} (F : Fun K "data_file" "data_file" sDataFile f fd) (Y : CtS mg) : FnOk P w K mg base CX0 1 f fd ["number"] spDF := by
  refine F.ok sc_df (fun vs H Q E h => ?_) (fun cdv A outer s0 H vs Q E hr h => ?_)
  · obtain ⟨da, rfl, hb, q⟩ := h
    rfl
  · obtain ⟨da, rfl, hb, q⟩ := h
    obtain ⟨dv, mdp, rdp⟩ := Y.dp
    refine ⟨_, (pss_one (ps_ret (pe_joined (.cons (pe_fmt (pe_glob (by rfl) mdp rdp)) (.cons (pe_fmt (pv 0)) .nil))))), ?_⟩
    obtain ⟨l1, l2, _, _, lg⟩ := dn_of hb
    exact .inl ⟨_, rfl, (by show 5 ≤ sizeLine; decide), _, rfl, Nat.le_trans l1 (by decide), _, rfl, .inr ⟨da, rfl, lg, _, rfl, Nat.le_trans l2 (by decide), q⟩⟩
theorem sc_root : FnScope ["self"] ["self"] (defScope sStoreRoot) := ⟨rfl, rfl, rfl, by decide +kernel, rfl, by decide +kernel, by decide +kernel⟩
theorem ok_root {f : Addr} {fd : FuncData} {CS CD CC CR C fI : Addr} (F : Fun K "root" "Store.root" sStoreRoot f fd) (T : KC K CS fI SFf) : FnOk P w K mg base CX0 1 f fd ["self"] (spRoot CS CD CC CR C) := by
  refine F.ok sc_root (fun vs H Q E h => ?_) (fun cdv A outer s0 H vs Q E hr h => ?_)
  · obtain ⟨s, d, st, p, up, da, rs, rfl, h, q⟩ := h
    rfl
  · obtain ⟨s, d, st, p, up, da, rs, rfl, h, q⟩ := h
    refine ⟨_, (pss_one (ps_ret (pe_fld (pv 0) rfl))), ?_⟩
    obtain ⟨dx, ra, y, hi, hrt, hvs⟩ := h.i
    exact ⟨_, rfl, s, CS, dx, _, .ref ra, rfl, hi, T.cl, T.na _ (by decide +kernel), rfl, q ra hrt⟩
theorem sc_dn : FnScope ["self"] ["self"] (defScope sStoreDataName) := ⟨rfl, rfl, rfl, by decide +kernel, rfl, by decide +kernel, by decide +kernel⟩
theorem ok_dn {f : Addr} {fd : FuncData} {fR : Addr} {CS CD CC CR C fI : Addr} {fF : Addr} {fdF : FuncData} (F : Fun K "data_name" "Store.data_name" sStoreDataName f fd) (T : KC K CS fI SFf) (R : KC K CR fR RHf) (GF : FnOk P w K mg base CX0 1 fF fdF ["number"] spDF) (kF : PySem.W.keepIn K (.ref fF) = true) (bF : Binds K fdF ["number"] []) (gF : mg "data_file" = some (.ref fF)) : FnOk P w K mg base CX0 2 f fd ["self"] (spDN CS CD CC CR C) := by
  refine F.ok sc_dn (fun vs H Q E h => ?_) (fun cdv A outer s0 H vs Q E hr h => ?_)
  · obtain ⟨s, d, st, p, up, da, rs, rfl, h, q⟩ := h
    rfl
  · obtain ⟨s, d, st, p, up, da, rs, rfl, h, q⟩ := h
    refine ⟨_, (pss_one (ps_ret (pe_call GF hr (by rfl) gF kF bF .nil pass0 (pa_cons (pe_fld (pe_fld (pv 0) rfl) rfl) pa_nil)))), ?_⟩
    obtain ⟨dx, ra, y, hi, hrt, hvs⟩ := h.i
    obtain ⟨a, dxr, u, er, hra, _⟩ := hrt
    cases er
    have hra := (hid_some hra).2
    exact ⟨_, rfl, s, CS, dx, _, .ref ra, rfl, hi, T.cl, T.na _ (by decide +kernel), rfl, _, CR, dxr, _, .int da, rfl, hra, R.cl, R.na _ (by decide +kernel), rfl, da, rfl, h.b, q⟩
theorem sc_ds : FnScope ["self", "size"] ["self"] (defScope sStoreDataSize) := ⟨rfl, rfl, rfl, by decide +kernel, rfl, by decide +kernel, by decide +kernel⟩
theorem ok_ds {f : Addr} {fd : FuncData} {fD : Addr} {CS CD CC CR C fI : Addr} {fN fZ : Addr} {fdN fdZ : FuncData} (F : Fun K "data_size" "Store.data_size" sStoreDataSize f fd) (T : KC K CS fI SFf) (TD : KC K CD fD CDf) (GN : FnOk P w K mg base CX0 2 fN fdN ["self"] (spDN CS CD CC CR C)) (mN : Meth K CS "data_name" fN) (bN : Binds K fdN ["self"] []) (GZ : FnOk P w K mg base CX0 1 fZ fdZ ["self", "name"] (spSz CD CC)) (mZ : Meth K CD "size" fZ) (bZ : Binds K fdZ ["self", "name"] []) : FnOk P w K mg base CX0 3 f fd ["self"] (spDSz CS CD CC CR C) := by
  refine F.ok sc_ds (fun vs H Q E h => ?_) (fun cdv A outer s0 H vs Q E hr h => ?_)
  · obtain ⟨s, d, st, p, up, da, rs, rfl, h, q⟩ := h
    rfl
  · obtain ⟨s, d, st, p, up, da, rs, rfl, h, q⟩ := h
    refine ⟨_, (pss_cons (ps_set (i := 1) sc_ds.nd rfl (.inl rfl) (pe_meth (pe_fld (pv 0) rfl) TD.cl mZ GZ (hr.mono (j := 1) (by decide)) bZ .nil pass0 (pa_cons (pe_meth0 (pv 0) T.cl mN GN (hr.mono (j := 2) (by decide)) bN .nil pass0) pa_nil)))
      (pss_one (ps_ret (pe_ifExp (pt_cmpR op_isN (pv 1) pe_non (nomark _)) pe_int (pv 1))))), ?_⟩
    obtain ⟨dx, ra, y, hi, hrt, hvs⟩ := h.i
    obtain ⟨dxd, hd⟩ := h.k.inst
    refine ⟨_, rfl, s, CS, dx, _, .ref d, rfl, hi, T.cl, T.na _ (by decide +kernel), rfl, d, dxd, _, rfl, hd, rfl, _, rfl, s, dx, _, rfl, hi, rfl, s, d, st, p, up, da, rs, rfl, h, d, st, p, dN da, rfl, h.k, h.g.g, ?_⟩
    refine ⟨_, rfl, rfl, _, rfl, ?_⟩
    cases e : st.rd (dN da) with
    | none =>
      rw [e] at q
      exact iteT q
    | some o =>
      rw [e] at q
      exact iteF ⟨_, rfl, q⟩
theorem sc_std : FnScope ["self", "offset", "length"] ["self", "offset", "length"] (defScope sStoreStandingOctets) := ⟨rfl, rfl, rfl, by decide +kernel, rfl, by decide +kernel, by decide +kernel⟩
theorem ok_std {f : Addr} {fd : FuncData} {fD : Addr} {CS CD CC CR C fI : Addr} {fN fZ fA : Addr} {fdN fdZ fdA : FuncData} (F : Fun K "standing_octets" "Store.standing_octets" sStoreStandingOctets f fd) (Y : CtS mg) (T : KC K CS fI SFf) (TD : KC K CD fD CDf) (GN : FnOk P w K mg base CX0 2 fN fdN ["self"] (spDN CS CD CC CR C)) (mN : Meth K CS "data_name" fN) (bN : Binds K fdN ["self"] []) (GZ : FnOk P w K mg base CX0 1 fZ fdZ ["self", "name"] (spSz CD CC)) (mZ : Meth K CD "size" fZ) (bZ : Binds K fdZ ["self", "name"] []) (GA : FnOk P w K mg base CX0 1 fA fdA ["self", "name", "start", "count"] (spRf CD CC)) (mA : Meth K CD "read" fA) (bA : Binds K fdA ["self", "name", "start", "count"] []) : FnOk P w K mg base CX0 3 f fd ["self", "offset", "length"] (spStd CS CD CC CR C) := by
  refine F.ok sc_std (fun vs H Q E h => ?_) (fun cdv A outer s0 H vs Q E hr h => ?_)
  · obtain ⟨s, d, st, p, up, da, rs, D, c, rfl, h, hr0, k, q⟩ := h
    rfl
  · obtain ⟨s, d, st, p, up, da, rs, D, c, rfl, h, hr0, k, q⟩ := h
    obtain ⟨sv, msl, rsl⟩ := Y.sl
    refine ⟨_, (pss_cons (ps_if (pt_cmpR op_isN (pe_meth (pe_fld (pv 0) rfl) TD.cl mZ GZ (hr.mono (j := 1) (by decide)) bZ .nil pass0 (pa_cons (pe_meth0 (pv 0) T.cl mN GN (hr.mono (j := 2) (by decide)) bN .nil pass0) pa_nil)) pe_non (nomark _)) (pss_one (ps_ret (pe_lst pa_nil))) pss_nil)
      (pss_one (ps_ret (pe_meth (pe_fld (pv 0) rfl) TD.cl mA GA (hr.mono (j := 1) (by decide)) bA .nil pass0 (pa_cons (pe_meth0 (pv 0) T.cl mN GN (hr.mono (j := 2) (by decide)) bN .nil pass0) (pa_cons (pv 1) (pa_cons (pe_op op_add (pe_glob (by rfl) msl rsl) (pv 2)) pa_nil))))))), ?_⟩
    obtain ⟨dx, ra, y, hi, hrt, hvs⟩ := h.i
    obtain ⟨dxd, hd⟩ := h.k.inst
    refine ⟨_, rfl, s, CS, dx, _, .ref d, rfl, hi, T.cl, T.na _ (by decide +kernel), rfl, d, dxd, _, rfl, hd, rfl, _, rfl, s, dx, _, rfl, hi, rfl, s, d, st, p, up, da, rs, rfl, h, d, st, p, dN da, rfl, h.k, h.g.g, ?_⟩
    rw [hr0]
    refine ⟨rfl, _, rfl, iteF ?_⟩
    have h1 := k.o
    have h2 := k.l
    have h3 := k.le
    refine ⟨_, rfl, s, CS, dx, _, .ref d, rfl, hi, T.cl, T.na _ (by decide +kernel), rfl, d, dxd, _, rfl, hd, rfl, _, rfl, s, dx, _, rfl, hi, rfl, s, d, st, p, up, da, rs, rfl, h, _, rfl, _, rfl, 4, c.l, rfl, rfl, ?_⟩
    refine ⟨d, st, p, dN da, c.o.toNat, 4 + c.l.toNat, D, ?_, h.k, h.g.g, hr0, fun H' q0 sm nq eq => q H' q0 sm nq ?_⟩
    · rw [show ((c.o.toNat : Nat) : Int) = c.o from by omega, show ((4 + c.l.toNat : Nat) : Int) = 4 + c.l from by omega] <;> rfl
    · rw [eq, std_of k]
end
end K2

namespace K2
open PySem L2
theorem eqv_ints (ns ms : List Int) : PyData.eqv (.list (ns.map PyData.int)) (.list (ms.map PyData.int)) = decide (ns = ms) := by
  rw [← SeqAt.same_eq_eqv _ _ (by simp only [SeqAt.noMix]; exact PySem.W.noMix_ints ns ms)]
  simp only [PySem.Spec.same]
  exact PySem.W.same_ints ns ms
theorem ned_ints {K : PySem.W.Frag} {H : Hp} {a b : Addr} {ns ms : List Int} {Q : VK} (ha : H a = some (.lst (ns.map V.int))) (hb : H b = some (.lst (ms.map V.int))) (q : Q (.bl (!decide (ns = ms))) H) : rNeD K (.ref a) (.ref b) H Q := by
  refine ⟨.list (ns.map PyData.int), .list (ms.map PyData.int), .lst (.inl (.inl ha)) (dp_ints ns), .lst (.inl (.inl hb)) (dp_ints ms), shp_of (depth_ints ns) (lay_ints ns), shp_of (depth_ints ms) (lay_ints ms), ?_⟩
  rw [eqv_ints]
  exact q
theorem eqd_ints {K : PySem.W.Frag} {H : Hp} {a b : Addr} {ns ms : List Int} {Q : VK} (ha : H a = some (.lst (ns.map V.int))) (hb : H b = some (.lst (ms.map V.int))) (q : Q (.bl (decide (ns = ms))) H) : rEqD K (.ref a) (.ref b) H Q := by
  refine ⟨.list (ns.map PyData.int), .list (ms.map PyData.int), .lst (.inl (.inl ha)) (dp_ints ns), .lst (.inl (.inl hb)) (dp_ints ms), shp_of (depth_ints ns) (lay_ints ns), shp_of (depth_ints ms) (lay_ints ms), ?_⟩
  rw [eqv_ints]
  exact q
def errV (v : Int) : HO := .xd [("name", .str "InvalidVersion"), ("place", .int v)]
def spAOx (CS CD CC CR C CV : Addr) : Sp := fun vs H Q E => ∃ (s d : Addr) (st : DS) (p : DP) (up da : Int) (rs : List Ve) (v : Int), vs = [.ref s, .int v] ∧ StAt CS CD CC CR C H s d st p up da rs ∧ (∀ r ∈ rs, r.no = v → ∀ y, AsD (hid (ftS s d p st.cs.length) H) C y r.as → Q y H) ∧
  (v ∉ rs.map Ve.no → ∀ H' x, Same H H' → H x = none → H' x = some (errV v) → E (.ref CV) (some x) H')
def spAO (CS CD CC CR C : Addr) : Sp := fun vs H Q _ => ∃ (s d : Addr) (st : DS) (p : DP) (up da : Int) (rs : List Ve) (r : Ve), vs = [.ref s, .int r.no] ∧ StAt CS CD CC CR C H s d st p up da rs ∧ r ∈ rs ∧ ∀ y, AsD (hid (ftS s d p st.cs.length) H) C y r.as → Q y H
theorem no_inj {rs : List Ve} (w : WfR rs) {r r' : Ve} (h : r ∈ rs) (h' : r' ∈ rs) (e : r.no = r'.no) : r = r' := by
  obtain ⟨i, hi⟩ := List.mem_iff_getElem?.mp h
  obtain ⟨j, hj⟩ := List.mem_iff_getElem?.mp h'
  obtain ⟨li, ei⟩ := List.getElem?_eq_some_iff.mp hi
  obtain ⟨lj, ej⟩ := List.getElem?_eq_some_iff.mp hj
  have pw := List.pairwise_iff_getElem.mp w.a
  rcases Nat.lt_trichotomy i j with z | z | z
  · have := pw i j (by rw [List.length_map]; exact li) (by rw [List.length_map]; exact lj) z
    rw [List.getElem_map, List.getElem_map, ei, ej] at this
    omega
  · subst z
    rw [← ei, ← ej]
  · have := pw j i (by rw [List.length_map]; exact lj) (by rw [List.length_map]; exact li) z
    rw [List.getElem_map, List.getElem_map, ei, ej] at this
    omega
theorem WfR.nd {rs : List Ve} (w : WfR rs) : (rs.map fun r => (Sum.inl r.no : Key)).Nodup := by
  have h : (rs.map Ve.no).Nodup := w.a.imp fun z => Int.ne_of_lt z
  have e : (rs.map fun r => (Sum.inl r.no : Key)) = (rs.map Ve.no).map Sum.inl := by rw [List.map_map]; rfl
  rw [e]
  exact h.map _ fun a b n z => n (Sum.inl.inj z)
theorem WfV.nd {r : Ve} (w : WfV r) : (r.as.map fun r => (Sum.inr r.n : Key)).Nodup := by
  have e : (r.as.map fun r => (Sum.inr r.n : Key)) = (r.as.map Ar.n).map Sum.inr := by rw [List.map_map]; rfl
  rw [e]
  exact w.nm.1.map _ fun a b n z => n (Sum.inr.inj z)
theorem asc_nd {cs : List Ck} (h : AscL (cs.map Ck.c)) : (cs.map fun c => kI c.c).Nodup := by
  have h2 : (cs.map Ck.c).Nodup := h.imp fun {a b} z y => by
    subst y
    rw [lexL_lt] at z
    exact List.lt_irrefl _ (of_decide_eq_true z)
  have e : (cs.map fun c => kI c.c) = (cs.map Ck.c).map kI := by rw [List.map_map]; rfl
  rw [e]
  exact h2.map _ fun a b n z => n (kI_inj z)
theorem DkM.get {α : Type} {H : Hp} {key : α → Key} {R : V → α → Prop} {a : Addr} {l : List α} (h : DkM H key R (.ref a) l) (nd : (l.map key).Nodup) {x : α} (hx : x ∈ l) : ∃ y, DGet H a (kV (key x)) (some y) ∧ R y x := by
  obtain ⟨a', xs, e, e1, al⟩ := h
  cases e
  obtain ⟨i, hi⟩ := List.mem_iff_getElem?.mp hx
  obtain ⟨y, hy, r⟩ := al.2 i x hi
  have := DGet.k (k := key x) e1
  rw [zip_get nd al.1 hi hy] at this
  exact ⟨y, this, r⟩
theorem DkM.no {α : Type} {H : Hp} {key : α → Key} {R : V → α → Prop} {a : Addr} {l : List α} (h : DkM H key R (.ref a) l) {k : Key} (n : k ∉ l.map key) : DGet H a (kV k) none := by
  obtain ⟨a', xs, e, e1, al⟩ := h
  cases e
  have := DGet.k (k := k) e1
  rwa [zip_none n] at this
theorem DtM.get {α : Type} {H H1 : Hp} {key : α → List Key} {R : V → α → Prop} {a b : Addr} {l : List α} (h : DtM H key R (.ref a) l) (m : Same H H1) (nd : (l.map key).Nodup) {x : α} (hx : x ∈ l) (hb : H1 b = some (.tup ((key x).map kV))) : ∃ y, DGet H1 a (.ref b) (some y) ∧ R y x := by
  obtain ⟨a', xs, e, e1, al⟩ := h
  cases e
  obtain ⟨i, hi⟩ := List.mem_iff_getElem?.mp hx
  obtain ⟨y, hy, r⟩ := al.2 i x hi
  have := DGet.t (k := key x) (m _ _ e1) hb
  rw [zip_get nd al.1 hi hy] at this
  exact ⟨y, this, r⟩
theorem DtM.no {α : Type} {H H1 : Hp} {key : α → List Key} {R : V → α → Prop} {a b : Addr} {l : List α} {k : List Key} (h : DtM H key R (.ref a) l) (m : Same H H1) (n : k ∉ l.map key) (hb : H1 b = some (.tup (k.map kV))) : DGet H1 a (.ref b) none := by
  obtain ⟨a', xs, e, e1, al⟩ := h
  cases e
  have := DGet.t (k := k) (m _ _ e1) hb
  rwa [zip_none n] at this
theorem dget_same {H H1 : Hp} {a : Addr} {y : V} {r : Option V} (h : DGet H a y r) (m : Same H H1) : DGet H1 a y r := by
  rcases h with ⟨kvs, k, e, e1, e2⟩ | ⟨kvs, k, b, e, e1, e2, e3⟩
  · exact .inl ⟨kvs, k, (by rcases e with e | ⟨o, e⟩; exact .inl (m _ _ e); exact .inr ⟨o, m _ _ e⟩), e1, e2⟩
  · exact .inr ⟨kvs, k, b, (by rcases e with e | ⟨o, e⟩; exact .inl (m _ _ e); exact .inr ⟨o, m _ _ e⟩), e1, m _ _ e2, e3⟩
theorem DkM.ref {α : Type} {H : Hp} {key : α → Key} {R : V → α → Prop} {y : V} {l : List α} (h : DkM H key R y l) : ∃ a, y = .ref a := let ⟨a, _, e, _⟩ := h; ⟨a, e⟩
theorem DtM.ref {α : Type} {H : Hp} {key : α → List Key} {R : V → α → Prop} {y : V} {l : List α} (h : DtM H key R y l) : ∃ a, y = .ref a := let ⟨a, _, e, _⟩ := h; ⟨a, e⟩
section
variable {P : Program} {w : World} {K : PySem.W.Frag} {mg : Str → Option Value} {base : Heap}
theorem sc_so : FnScope ["self", "offset", "length", "standing", "octets"] ["self", "offset", "length"] (defScope sStoreSoundOctets) := ⟨rfl, rfl, rfl, by decide +kernel, rfl, by decide +kernel, by decide +kernel⟩
theorem ok_so {f : Addr} {fd : FuncData} {CS CD CC CR C fI : Addr} {fS fW fU : Addr} {fdS fdW fdU : FuncData} (F : Fun K "sound_octets" "Store.sound_octets" sStoreSoundOctets f fd) (M : Nm mg) (Y : CtS mg) (T : KC K CS fI SFf) (GS : FnOk P w K mg base CX0 3 fS fdS ["self", "offset", "length"] (spStd CS CD CC CR C)) (mS : Meth K CS "standing_octets" fS) (bS : Binds K fdS ["self", "offset", "length"] []) (GW : FnOk P w K mg base CX0 1 fW fdW ["number"] spW4) (kW : PySem.W.keepIn K (.ref fW) = true) (bW : Binds K fdW ["number"] []) (gW : mg "write_four" = some (.ref fW)) (GU : FnOk P w K mg base CX0 1 fU fdU ["octets"] (spSum K)) (kU : PySem.W.keepIn K (.ref fU) = true) (bU : Binds K fdU ["octets"] []) (gU : mg "sum_of" = some (.ref fU)) : FnOk P w K mg base CX0 4 f fd ["self", "offset", "length"] (spSO CS CD CC CR C) := by
  refine F.ok sc_so (fun vs H Q E h => ?_) (fun cdv A outer s0 H vs Q E hr h => ?_)
  · obtain ⟨s, d, st, p, up, da, rs, D, c, rfl, h, hr0, k, q⟩ := h
    rfl
  · obtain ⟨s, d, st, p, up, da, rs, D, c, rfl, h, hr0, k, q⟩ := h
    obtain ⟨sv, msl, rsl⟩ := Y.sl
    refine ⟨_, (pss_cons (ps_set (i := 3) sc_so.nd rfl (.inl rfl) (pe_meth (pv 0) T.cl mS GS hr bS .nil pass0 (pa_cons (pv 1) (pa_cons (pv 2) pa_nil))))
      (pss_cons (ps_set (i := 4) sc_so.nd rfl (.inl rfl) (pe_slice sl_list (pv 3) (po_some (pe_glob (by rfl) msl rsl)) po_none))
      (pss_cons (ps_if (PW.pt (pw_or (pt_cmpR op_lt (pe_callB call_len_seq (by rfl) M.len PySem.boot_len (pa_cons (pv 4) pa_nil)) (pv 2) (nomark _)) (pw_or1 (pt_cmpR (op_neD hr.units) (pe_slice sl_list (pv 3) po_none (po_some (pe_glob (by rfl) msl rsl))) (pe_call GW (hr.mono (j := 1) (by decide)) (by rfl) gW kW bW .nil pass0 (pa_cons (pe_call GU (hr.mono (j := 1) (by decide)) (by rfl) gU kU bU .nil pass0 (pa_cons (pv 4) pa_nil)) pa_nil)) (nomark _))))) (pss_one (ps_ret pe_non)) pss_nil)
      (pss_one (ps_ret (pv 4)))))), ?_⟩
    obtain ⟨dx, ra, y, hi, hrt, hvs⟩ := h.i
    refine ⟨_, rfl, s, dx, _, rfl, hi, rfl, _, rfl, _, rfl, s, d, st, p, up, da, rs, D, c, rfl, h, hr0, k, fun H1 l1 m1 n1 e1 => ?_⟩
    have l4 : (w4 (sumO (recO D c))).length = 4 := rfl
    have eo : cutV ((w4 (sumO (recO D c)) ++ recO D c).map V.int) (some 4) none = (recO D c).map V.int := by
      rw [show ((4 : Int)) = ((4 : Nat) : Int) from rfl, cutN, ← List.map_drop, List.drop_append_of_le_length (by rw [l4]; exact Nat.le_refl _), List.drop_of_length_le (by rw [l4]; exact Nat.le_refl _), List.nil_append]
    have es : cutV ((w4 (sumO (recO D c)) ++ recO D c).map V.int) none (some 4) = (w4 (sumO (recO D c))).map V.int := by
      rw [show ((4 : Int)) = ((4 : Nat) : Int) from rfl, cut0, ← List.map_take, List.take_append_of_le_length (by rw [l4]; exact Nat.le_refl _), List.take_of_length_le (by rw [l4]; exact Nat.le_refl _)]
    refine ⟨_, rfl, 4, rfl, l1, _, rfl, .inl (.inl e1), fun l2 n2 => ?_⟩
    rw [eo]
    have e12 := same_new (o := .lst ((recO D c).map V.int)) n2 _ _ e1
    have lr := recO_len k
    have h2 := k.l
    refine ⟨_, rfl, l2, _, rfl, .inl (.inl (.inl upd_same)), _, rfl, _, _, rfl, rfl, _, rfl, iteBF (decide_eq_false ?_) ?_⟩
    · rw [List.length_map, lr]
      omega
    refine ⟨_, rfl, 4, rfl, l1, _, rfl, .inl (.inl e12), fun l3 n3 => ?_⟩
    rw [es]
    have m3 := same_new (o := .lst ((w4 (sumO (recO D c))).map V.int)) n3
    refine ⟨_, rfl, l2, recO D c, rfl, .inl (.inl (m3 _ _ upd_same)), _, rfl, fun l4' n4 => ?_⟩
    have m4 := same_new (o := .lst ((w4 (sumO (recO D c))).map V.int)) n4
    refine ne_ints (m4 _ _ upd_same) upd_same ⟨_, rfl, iteF ?_⟩
    exact ⟨_, rfl, q _ l2 (m1.trans ((same_new n2).trans (m3.trans m4))) (m1.free n2) (m4 _ _ (m3 _ _ upd_same))⟩
theorem sc_ao : FnScope ["self", "version"] ["self", "version"] (defScope sStoreArraysOf) := ⟨rfl, rfl, rfl, by decide +kernel, rfl, by decide +kernel, by decide +kernel⟩
theorem ok_ao {f : Addr} {fd : FuncData} {CV fE : Addr} {fdE : FuncData} {CS CD CC CR C fI : Addr} (F : Fun K "_arrays_of" "Store._arrays_of" sStoreArraysOf f fd) (T : KC K CS fI SFf) (FE : Fun K "__init__" "ManysidesError.__init__" sInit fE fdE) (bE : Binds K fdE ["self", "place"] []) (E0 : ErrC K CV fE "InvalidVersion") (gE : mg "InvalidVersion" = some (.ref CV)) : FnOk P w K mg base (L2.CX P w) 3 f fd ["self", "version"] (spAOx CS CD CC CR C CV) := by
  refine F.okX sc_ao (fun vs H Q E h => ?_) (fun cdv A outer s0 H vs Q E hr h => ?_)
  · obtain ⟨s, d, st, p, up, da, rs, v, rfl, h, q, qe⟩ := h
    rfl
  · obtain ⟨s, d, st, p, up, da, rs, v, rfl, h, q, qe⟩ := h
    have GE : FnOk P w K mg base CX0 1 fE fdE ["self", "place"] (spInit K fE) := ok_init FE
    have hu := hu_of hr
    refine ⟨_, (pss_cons (ps_if (pt_cmp (pc_dnotin hu (pv 1) (pe_fld (pv 0) rfl))) (pss_one (ps_raise rfl (takes_of rfl rfl rfl rfl) (pmk_oex E0.oc E0.iC E0.tI GE (hr.mono (j := 2) (by decide)) bE .nil pass0 (by rfl) gE (pa_cons (pv 1) pa_nil)))) pss_nil)
      (pss_one (ps_ret (pe_dget hu (pe_fld (pv 0) rfl) (pv 1) (fun _ _ => rfl))))), ?_⟩
    obtain ⟨dx, ra, y, hi, hrt, hvs⟩ := h.i
    obtain ⟨va, ey⟩ := hvs.ref
    subst ey
    by_cases hm : v ∈ rs.map Ve.no
    · obtain ⟨r, hr1, rfl⟩ := List.mem_map.mp hm
      obtain ⟨z, g, hz⟩ := DkM.get hvs h.w.nd hr1
      have g := dget_same g (hid_same _ _)
      refine ⟨_, rfl, _, rfl, s, CS, dx, _, .ref va, rfl, hi, T.cl, T.na _ (by decide +kernel), rfl, va, _, rfl, g, _, rfl, iteF ?_⟩
      exact ⟨_, rfl, s, CS, dx, _, .ref va, rfl, hi, T.cl, T.na _ (by decide +kernel), rfl, _, rfl, va, z, rfl, g, q r hr1 rfl z hz⟩
    · have hm2 : (Sum.inl v : Key) ∉ rs.map fun r => (Sum.inl r.no : Key) := fun z => by
        obtain ⟨r, hr1, e⟩ := List.mem_map.mp z
        exact hm (List.mem_map.mpr ⟨r, hr1, Sum.inl.inj e⟩)
      have g := dget_same (DkM.no hvs hm2) (hid_same _ _)
      refine ⟨_, rfl, _, rfl, s, CS, dx, _, .ref va, rfl, hi, T.cl, T.na _ (by decide +kernel), rfl, va, _, rfl, g, _, rfl, iteT ?_⟩
      refine ⟨_, rfl, (by show 1 ≤ 1000; decide), fun e0 ne => ⟨e0, CV, "InvalidVersion", _, rfl, E0, upd_same, fun dy ndx nde => ⟨rfl, dy, [("name", .str "InvalidVersion"), ("place", .int v)], ?_, upd_same, ?_, ?_⟩⟩⟩
      · rw [upd_ne nde.symm, upd_same]
      · rw [upd_ne nde] at ndx
        exact ndx
      · rw [upd_ne nde] at ndx
        exact qe hm _ dy (same_err (Same.refl H) ne ndx) ndx upd_same
theorem ok_aon {f : Addr} {fd : FuncData} {CS CD CC CR C CV : Addr} {k : Nat} (F : FnOk P w K mg base (L2.CX P w) k f fd ["self", "version"] (spAOx CS CD CC CR C CV)) : FnOk P w K mg base CX0 k f fd ["self", "version"] (spAO CS CD CC CR C) := by
  refine F.noX fun vs H Q E h => ?_
  obtain ⟨s, d, st, p, up, da, rs, r, rfl, h, hr, q⟩ := h
  refine ⟨s, d, st, p, up, da, rs, r.no, rfl, h, fun r' hr' e y hy => ?_, fun n => absurd (List.mem_map.mpr ⟨r, hr, rfl⟩) n⟩
  rw [no_inj h.w hr' hr e] at hy
  exact q y hy
end
end K2

namespace K2
open PySem L2
theorem uniqP {α : Type} {r : α → α → Prop} (anti : ∀ a b, r a b → r b a → a = b) {l m : List α} (h : l.Pairwise r) (g : m.Pairwise r) (p : l.Perm m) : l = m := by
  induction l generalizing m with
  | nil => exact (List.nil_perm.mp p).symm
  | cons a t ih =>
    cases m with
    | nil => exact absurd p.symm (by simp)
    | cons b u =>
      have hp := List.pairwise_cons.mp h
      have gp := List.pairwise_cons.mp g
      have e : a = b := by
        rcases List.mem_cons.mp (p.mem_iff.mp List.mem_cons_self : a ∈ b :: u) with z | z
        · exact z
        rcases List.mem_cons.mp (p.mem_iff.mpr List.mem_cons_self : b ∈ a :: t) with y | y
        · exact y.symm
        exact anti a b (hp.1 b y) (gp.1 a z)
      subst e
      rw [ih hp.2 gp.2 ((List.perm_cons a).mp p)]
theorem keys_no {rs : List Ve} {xs : List V} (h : xs.length = rs.length) : (((rs.map fun r => (Sum.inl r.no : Key)).zip xs).map (·.1)) = (rs.map Ve.no).map Sum.inl := by
  rw [zip_keys h, List.map_map]
  rfl
theorem keys_nm {as : List Ar} {xs : List V} (h : xs.length = as.length) : (((as.map fun r => (Sum.inr r.n : Key)).zip xs).map (·.1)) = (as.map Ar.n).map Sum.inr := by
  rw [zip_keys h, List.map_map]
  rfl
theorem keys_ck {cs : List Ck} {xs : List V} (h : xs.length = cs.length) : (((cs.map fun c => kI c.c).zip xs).map (·.1)) = (cs.map Ck.c).map kI := by
  rw [zip_keys h, List.map_map]
  rfl
theorem keys_all {H : Hp} {bs : List Addr} {ps : List (List Int)} (h : KeysAt H bs ps) : All (IsAt H) (bs.map V.ref) ps := by
  refine ⟨by rw [List.length_map]; exact h.1, fun i r e => ?_⟩
  have il : i < bs.length := by rw [h.1]; exact (List.getElem?_eq_some_iff.mp e).1
  have eb := List.getElem?_eq_getElem il
  exact ⟨.ref bs[i], by rw [List.getElem?_map, eb]; rfl, bs[i], rfl, h.2 i _ r eb e⟩
def lastNo (rs : List Ve) : Int := (rs.getLast?.map Ve.no).getD 0
def spVs (CS CD CC CR C : Addr) : Sp := fun vs H Q _ => ∃ (s d : Addr) (st : DS) (p : DP) (up da : Int) (rs : List Ve), vs = [.ref s] ∧ StAt CS CD CC CR C H s d st p up da rs ∧ ∀ H' q, Same H H' → H q = none → H' q = some (.lst ((rs.map Ve.no).map V.int)) → Q (.ref q) H'
def spLt (CS CD CC CR C : Addr) : Sp := fun vs H Q _ => ∃ (s d : Addr) (st : DS) (p : DP) (up da : Int) (rs : List Ve), vs = [.ref s] ∧ StAt CS CD CC CR C H s d st p up da rs ∧ Q (.int (lastNo rs)) H
def spArsX (CS CD CC CR C CV : Addr) : Sp := fun vs H Q E => ∃ (s d : Addr) (st : DS) (p : DP) (up da : Int) (rs : List Ve) (v : Int), vs = [.ref s, .int v] ∧ StAt CS CD CC CR C H s d st p up da rs ∧ (∀ r ∈ rs, r.no = v → ∀ H' q, Same H H' → H q = none → H' q = some (.lst ((r.as.map Ar.n).map V.str)) → Q (.ref q) H') ∧
  (v ∉ rs.map Ve.no → ∀ H' x, Same H H' → H x = none → H' x = some (errV v) → E (.ref CV) (some x) H')
def spArs (CS CD CC CR C : Addr) : Sp := fun vs H Q _ => ∃ (s d : Addr) (st : DS) (p : DP) (up da : Int) (rs : List Ve) (r : Ve), vs = [.ref s, .int r.no] ∧ StAt CS CD CC CR C H s d st p up da rs ∧ r ∈ rs ∧ ∀ H' q, Same H H' → H q = none → H' q = some (.lst ((r.as.map Ar.n).map V.str)) → Q (.ref q) H'
def spShp (CS CD CC CR C : Addr) : Sp := fun vs H Q _ => ∃ (s d : Addr) (st : DS) (p : DP) (up da : Int) (rs : List Ve) (r : Ve) (a : Ar), vs = [.ref s, .int r.no, .str a.n] ∧ StAt CS CD CC CR C H s d st p up da rs ∧ r ∈ rs ∧ a ∈ r.as ∧ ∀ u, ShAt (hid (ftS s d p st.cs.length) H) C u a.ds a.ts → Q u H
def spChs (CS CD CC CR C : Addr) : Sp := fun vs H Q _ => ∃ (s d : Addr) (st : DS) (p : DP) (up da : Int) (rs : List Ve) (r : Ve) (a : Ar), vs = [.ref s, .int r.no, .str a.n] ∧ StAt CS CD CC CR C H s d st p up da rs ∧ r ∈ rs ∧ a ∈ r.as ∧ ∀ H' q xs, Same H H' → H q = none → H' q = some (.lst xs) → All (IsAt H') xs (a.cs.map Ck.c) → Q (.ref q) H'
def spChk (CS CD CC CR C : Addr) : Sp := fun vs H Q _ => ∃ (s d t : Addr) (st : DS) (p : DP) (up da : Int) (rs : List Ve) (r : Ve) (a : Ar) (pl D : List Int), vs = [.ref s, .int r.no, .str a.n, .ref t] ∧ StAt CS CD CC CR C H s d st p up da rs ∧ r ∈ rs ∧ a ∈ r.as ∧ H t = some (.tup (pl.map V.int)) ∧ (st.rd (dN da)).getD [] = D ∧ (∀ c ∈ a.cs, Okc D c) ∧
  (pl ∉ a.cs.map Ck.c → Q .non H) ∧ ∀ c ∈ a.cs, c.c = pl → ∀ H' q, Same H H' → H q = none → H' q = some (.lst ((recO D c).map V.int)) → Q (.ref q) H'
theorem rd_some {st : DS} {n : Str} {D : List Int} {c : Ck} (h : (st.rd n).getD [] = D) (k : Okc D c) : st.rd n = some D := by
  cases e : st.rd n with
  | some o =>
    rw [e] at h
    rw [← h]
    rfl
  | none =>
    rw [e] at h
    have h1 := k.o
    have h2 := k.l
    have h3 := k.le
    rw [← h] at h3
    have : (([] : List Int).length : Int) = 0 := rfl
    have h3 : c.o + 4 + c.l ≤ 0 := h3
    omega
section
variable {P : Program} {w : World} {K : PySem.W.Frag} {mg : Str → Option Value} {base : Heap}
theorem sc_vs : FnScope ["self"] ["self"] (defScope sStoreVersions) := ⟨rfl, rfl, rfl, by decide +kernel, rfl, by decide +kernel, by decide +kernel⟩
theorem ok_vs {f : Addr} {fd : FuncData} {CS CD CC CR C fI : Addr} (F : Fun K "versions" "Store.versions" sStoreVersions f fd) (M : Nm mg) (T : KC K CS fI SFf) : FnOk P w K mg base CX0 1 f fd ["self"] (spVs CS CD CC CR C) := by
  refine F.ok sc_vs (fun vs H Q E h => ?_) (fun cdv A outer s0 H vs Q E hr h => ?_)
  · obtain ⟨s, d, st, p, up, da, rs, rfl, h, q⟩ := h
    rfl
  · obtain ⟨s, d, st, p, up, da, rs, rfl, h, q⟩ := h
    refine ⟨_, (pss_one (ps_ret (pe_callB (call_sortedDI rfl) (by rfl) M.sorted (by decide +kernel) (pa_cons (pe_fld (pv 0) rfl) pa_nil)))), ?_⟩
    obtain ⟨dx, ra, y, hi, hrt, va, xs, rfl, ev, al⟩ := h.i
    have ev := (hid_some ev).2
    refine ⟨_, rfl, s, CS, dx, _, .ref va, rfl, hi, T.cl, T.na _ (by decide +kernel), rfl, va, _, rs.map Ve.no, rfl, Rd.of ev, keys_no al.1, (by rw [List.length_map]; exact h.w.l), fun ys q1 pm pw nq => ?_⟩
    have e : ys = rs.map Ve.no := uniqP (r := (· ≤ ·)) (fun _ _ => Int.le_antisymm) pw (h.w.a.imp Int.le_of_lt) pm
    rw [e]
    exact q _ q1 (same_new nq) nq upd_same
theorem sc_lt : FnScope ["self"] ["self"] (defScope sStoreLatest) := ⟨rfl, rfl, rfl, by decide +kernel, rfl, by decide +kernel, by decide +kernel⟩
theorem ok_lt {f : Addr} {fd : FuncData} {CS CD CC CR C fI : Addr} (F : Fun K "latest" "Store.latest" sStoreLatest f fd) (M : Nm mg) (T : KC K CS fI SFf) : FnOk P w K mg base CX0 1 f fd ["self"] (spLt CS CD CC CR C) := by
  refine F.ok sc_lt (fun vs H Q E h => ?_) (fun cdv A outer s0 H vs Q E hr h => ?_)
  · obtain ⟨s, d, st, p, up, da, rs, rfl, h, q⟩ := h
    rfl
  · obtain ⟨s, d, st, p, up, da, rs, rfl, h, q⟩ := h
    refine ⟨_, (pss_one (ps_ret (pe_callBK (cr_maxDI rfl) (by rfl) M.max (by decide +kernel) (pa_cons (pe_fld (pv 0) rfl) pa_nil) (pk_cons pe_int pk_nil)))), ?_⟩
    obtain ⟨dx, ra, y, hi, hrt, va, xs, rfl, ev, al⟩ := h.i
    have ev := (hid_some ev).2
    refine ⟨_, rfl, s, CS, dx, _, .ref va, rfl, hi, T.cl, T.na _ (by decide +kernel), rfl, va, _, _, rs.map Ve.no, rfl, rfl, Rd.of ev, keys_no al.1, h.w.a, fun e => ?_, fun m e => ?_⟩
    · rw [List.map_eq_nil_iff.mp e] at q
      exact q
    · rw [List.getLast?_map] at e
      unfold lastNo at q
      rw [e] at q
      exact q
theorem sc_ars : FnScope ["self", "version"] ["self", "version"] (defScope sStoreArrays) := ⟨rfl, rfl, rfl, by decide +kernel, rfl, by decide +kernel, by decide +kernel⟩
theorem ok_ars {f : Addr} {fd : FuncData} {CV : Addr} {CS CD CC CR C fI : Addr} {fA : Addr} {fdA : FuncData} (F : Fun K "arrays" "Store.arrays" sStoreArrays f fd) (M : Nm mg) (T : KC K CS fI SFf) (GA : FnOk P w K mg base (L2.CX P w) 3 fA fdA ["self", "version"] (spAOx CS CD CC CR C CV)) (mA : Meth K CS "_arrays_of" fA) (bA : Binds K fdA ["self", "version"] []) : FnOk P w K mg base (L2.CX P w) 4 f fd ["self", "version"] (spArsX CS CD CC CR C CV) := by
  refine F.okX sc_ars (fun vs H Q E h => ?_) (fun cdv A outer s0 H vs Q E hr h => ?_)
  · obtain ⟨s, d, st, p, up, da, rs, v, rfl, h, q, qe⟩ := h
    rfl
  · obtain ⟨s, d, st, p, up, da, rs, v, rfl, h, q, qe⟩ := h
    refine ⟨_, (pss_one (ps_ret (pe_callB (call_sortedD rfl) (by rfl) M.sorted (by decide +kernel) (pa_cons (pe_methX (pv 0) T.cl mA GA hr bA (fun σ => passAt (takes_of rfl rfl rfl rfl) σ) (pa_cons (pv 1) pa_nil)) pa_nil)))), ?_⟩
    obtain ⟨dx, ra, y, hi, hrt, hvs⟩ := h.i
    refine ⟨_, rfl, s, dx, _, rfl, hi, rfl, _, rfl, s, d, st, p, up, da, rs, v, rfl, h, fun r hr1 e z hz => ?_, fun n H' x => qe n H' x⟩
    obtain ⟨a, xs, rfl, ea, al⟩ := hz
    have ea := (hid_some ea).2
    have wv := h.w.v r hr1
    refine ⟨a, _, r.as.map Ar.n, rfl, Rd.of ea, keys_nm al.1, (by rw [List.length_map]; exact wv.ln), fun ys q1 pm sr nq => ?_⟩
    rw [pw_perm (sorted_pw sr) (sorted_pw wv.nm.2) pm]
    exact q r hr1 e _ q1 (same_new nq) nq upd_same
theorem ok_arsn {f : Addr} {fd : FuncData} {CS CD CC CR C CV : Addr} {k : Nat} (F : FnOk P w K mg base (L2.CX P w) k f fd ["self", "version"] (spArsX CS CD CC CR C CV)) : FnOk P w K mg base CX0 k f fd ["self", "version"] (spArs CS CD CC CR C) := by
  refine F.noX fun vs H Q E h => ?_
  obtain ⟨s, d, st, p, up, da, rs, r, rfl, h, hr, q⟩ := h
  refine ⟨s, d, st, p, up, da, rs, r.no, rfl, h, fun r' hr' e H' q0 m n e' => ?_, fun n => absurd (List.mem_map.mpr ⟨r, hr, rfl⟩) n⟩
  rw [no_inj h.w hr' hr e] at e'
  exact q H' q0 m n e'
theorem sc_shp : FnScope ["self", "version", "name", "shape", "_"] ["self", "version", "name"] (defScope sStoreShape) := ⟨rfl, rfl, rfl, by decide +kernel, rfl, by decide +kernel, by decide +kernel⟩
theorem ok_shp {f : Addr} {fd : FuncData} {CS CD CC CR C fI : Addr} {fA : Addr} {fdA : FuncData} (F : Fun K "shape" "Store.shape" sStoreShape f fd) (T : KC K CS fI SFf) (GA : FnOk P w K mg base CX0 3 fA fdA ["self", "version"] (spAO CS CD CC CR C)) (mA : Meth K CS "_arrays_of" fA) (bA : Binds K fdA ["self", "version"] []) : FnOk P w K mg base CX0 4 f fd ["self", "version", "name"] (spShp CS CD CC CR C) := by
  refine F.ok sc_shp (fun vs H Q E h => ?_) (fun cdv A outer s0 H vs Q E hr h => ?_)
  · obtain ⟨s, d, st, p, up, da, rs, r, a, rfl, h, hr1, ha1, q⟩ := h
    rfl
  · obtain ⟨s, d, st, p, up, da, rs, r, a, rfl, h, hr1, ha1, q⟩ := h
    have hu := hu_of hr
    refine ⟨_, (pss_cons (ps_asg (pe_dget hu (pe_meth (pv 0) T.cl mA GA hr bA .nil pass0 (pa_cons (pv 1) pa_nil)) (pv 2) (fun _ _ => rfl)) (pg_tup (by rfl) (pgs_cons (pg_name (i := 3) sc_shp.nd rfl (.inl rfl)) (pgs_cons (pg_name (i := 4) sc_shp.nd rfl (.inl rfl)) pgs_nil))))
      (pss_one (ps_ret (pv 3)))), ?_⟩
    obtain ⟨dx, ra, y, hi, hrt, hvs⟩ := h.i
    have wv := h.w.v r hr1
    refine ⟨_, rfl, s, dx, _, rfl, hi, rfl, _, rfl, s, d, st, p, up, da, rs, r, rfl, h, hr1, fun z hz => ?_⟩
    obtain ⟨va, ez⟩ := hz.ref
    subst ez
    obtain ⟨w0, g, b, u, v, ew, et, hsh, hcs⟩ := DkM.get hz wv.nd ha1
    subst ew
    have g := dget_same g (hid_same _ _)
    have et := (hid_some et).2
    exact ⟨_, rfl, va, _, rfl, g, b, _, rfl, SqT.of et, rfl, _, _, rfl, _, _, rfl, rfl, _, rfl, q u hsh⟩
theorem sc_chs : FnScope ["self", "version", "name", "_", "records"] ["self", "version", "name"] (defScope sStoreChunks) := ⟨rfl, rfl, rfl, by decide +kernel, rfl, by decide +kernel, by decide +kernel⟩
theorem ok_chs {f : Addr} {fd : FuncData} {CS CD CC CR C fI : Addr} {fA : Addr} {fdA : FuncData} (F : Fun K "chunks" "Store.chunks" sStoreChunks f fd) (M : Nm mg) (T : KC K CS fI SFf) (GA : FnOk P w K mg base CX0 3 fA fdA ["self", "version"] (spAO CS CD CC CR C)) (mA : Meth K CS "_arrays_of" fA) (bA : Binds K fdA ["self", "version"] []) : FnOk P w K mg base CX0 4 f fd ["self", "version", "name"] (spChs CS CD CC CR C) := by
  refine F.ok sc_chs (fun vs H Q E h => ?_) (fun cdv A outer s0 H vs Q E hr h => ?_)
  · obtain ⟨s, d, st, p, up, da, rs, r, a, rfl, h, hr1, ha1, q⟩ := h
    rfl
  · obtain ⟨s, d, st, p, up, da, rs, r, a, rfl, h, hr1, ha1, q⟩ := h
    have hu := hu_of hr
    refine ⟨_, (pss_cons (ps_asg (pe_dget hu (pe_meth (pv 0) T.cl mA GA hr bA .nil pass0 (pa_cons (pv 1) pa_nil)) (pv 2) (fun _ _ => rfl)) (pg_tup (by rfl) (pgs_cons (pg_name (i := 3) sc_chs.nd rfl (.inl rfl)) (pgs_cons (pg_name (i := 4) sc_chs.nd rfl (.inl rfl)) pgs_nil))))
      (pss_one (ps_ret (pe_callB (cr_sortKT rfl hr.units) (by rfl) M.sorted (by decide +kernel) (pa_cons (pv 4) pa_nil))))), ?_⟩
    obtain ⟨dx, ra, y, hi, hrt, hvs⟩ := h.i
    have wv := h.w.v r hr1
    refine ⟨_, rfl, s, dx, _, rfl, hi, rfl, _, rfl, s, d, st, p, up, da, rs, r, rfl, h, hr1, fun z hz => ?_⟩
    obtain ⟨va, ez⟩ := hz.ref
    subst ez
    obtain ⟨w0, g, b, u, v, ew, et, hsh, hcs⟩ := DkM.get hz wv.nd ha1
    subst ew
    have g := dget_same g (hid_same _ _)
    have et := (hid_some et).2
    obtain ⟨k1, k2, k3⟩ := wv.ck a ha1
    obtain ⟨ca, xs, rfl, ec, al⟩ := hcs
    have ec := (hid_some ec).2
    refine ⟨_, rfl, va, _, rfl, g, b, _, rfl, SqT.of et, rfl, _, _, rfl, _, _, rfl, rfl, _, rfl, ca, _, a.cs.map Ck.c, rfl, Rd.of ec, keys_ck al.1, k1, fun r hr2 => ?_, (by rw [List.length_map]; omega), fun q1 bs nq kat => ?_⟩
    · obtain ⟨c, hc, rfl⟩ := List.mem_map.mp hr2
      exact k2 c hc
    · exact q _ q1 _ (same_new nq) nq upd_same ((keys_all kat).imp fun _ _ z => RowAt.same z (same_new nq))
theorem sc_chk : FnScope ["self", "version", "name", "chunk", "_", "records", "offset", "length", "octets"] ["self", "version", "name", "chunk"] (defScope sStoreChunk) := ⟨rfl, rfl, rfl, by decide +kernel, rfl, by decide +kernel, by decide +kernel⟩
theorem ok_chk {f : Addr} {fd : FuncData} {CS CD CC CR C fI : Addr} {fA fO : Addr} {fdA fdO : FuncData} (F : Fun K "chunk" "Store.chunk" sStoreChunk f fd) (T : KC K CS fI SFf) (GA : FnOk P w K mg base CX0 3 fA fdA ["self", "version"] (spAO CS CD CC CR C)) (mA : Meth K CS "_arrays_of" fA) (bA : Binds K fdA ["self", "version"] []) (GO : FnOk P w K mg base CX0 4 fO fdO ["self", "offset", "length"] (spSO CS CD CC CR C)) (mO : Meth K CS "sound_octets" fO) (bO : Binds K fdO ["self", "offset", "length"] []) : FnOk P w K mg base CX0 5 f fd ["self", "version", "name", "chunk"] (spChk CS CD CC CR C) := by
  refine F.ok sc_chk (fun vs H Q E h => ?_) (fun cdv A outer s0 H vs Q E hr h => ?_)
  · obtain ⟨s, d, t, st, p, up, da, rs, r, a, pl, D, rfl, h, hr1, ha1, ht, hD, okc, q0, q⟩ := h
    rfl
  · obtain ⟨s, d, t, st, p, up, da, rs, r, a, pl, D, rfl, h, hr1, ha1, ht, hD, okc, q0, q⟩ := h
    have hu := hu_of hr
    refine ⟨_, (pss_cons (ps_asg (pe_dget hu (pe_meth (pv 0) T.cl mA GA (hr.mono (j := 3) (by decide)) bA .nil pass0 (pa_cons (pv 1) pa_nil)) (pv 2) (fun _ _ => rfl)) (pg_tup (by rfl) (pgs_cons (pg_name (i := 4) sc_chk.nd rfl (.inl rfl)) (pgs_cons (pg_name (i := 5) sc_chk.nd rfl (.inl rfl)) pgs_nil))))
      (pss_cons (ps_if (pt_cmp (pc_dnotin hu (pv 3) (pv 5))) (pss_one (ps_ret pe_non)) pss_nil)
      (pss_cons (ps_asg (pe_dget hu (pv 5) (pv 3) (fun _ _ => rfl)) (pg_tup (by rfl) (pgs_cons (pg_name (i := 6) sc_chk.nd rfl (.inl rfl)) (pgs_cons (pg_name (i := 7) sc_chk.nd rfl (.inl rfl)) pgs_nil))))
      (pss_cons (ps_set (i := 8) sc_chk.nd rfl (.inl rfl) (pe_meth (pv 0) T.cl mO GO hr bO .nil pass0 (pa_cons (pv 6) (pa_cons (pv 7) pa_nil))))
      (pss_cons (ps_if (pt_cmpR op_isN (pv 8) pe_non (nomark _)) pss_dead pss_nil)
      (pss_one (ps_ret (pv 8)))))))), ?_⟩
    obtain ⟨dx, ra, y, hi, hrt, hvs⟩ := h.i
    have wv := h.w.v r hr1
    refine ⟨_, rfl, s, dx, _, rfl, hi, rfl, _, rfl, s, d, st, p, up, da, rs, r, rfl, h, hr1, fun z hz => ?_⟩
    obtain ⟨va, ez⟩ := hz.ref
    subst ez
    obtain ⟨w0, g, b, u, v, ew, et, hsh, hcs⟩ := DkM.get hz wv.nd ha1
    subst ew
    have g := dget_same g (hid_same _ _)
    have et := (hid_some et).2
    obtain ⟨k1, k2, k3⟩ := wv.ck a ha1
    obtain ⟨ca, ec⟩ := hcs.ref
    subst ec
    refine ⟨_, rfl, va, _, rfl, g, b, _, rfl, SqT.of et, rfl, _, _, rfl, _, _, rfl, rfl, ?_⟩
    by_cases hm : pl ∈ a.cs.map Ck.c
    · obtain ⟨c, hc, rfl⟩ := List.mem_map.mp hm
      obtain ⟨z, gz, t2, rfl, et2⟩ := DtM.get (H1 := H) (b := t) hcs (hid_same _ _) (asc_nd k1) hc (by rw [kI_v]; exact ht)
      have et2 := (hid_some et2).2
      refine ⟨_, rfl, _, rfl, ca, _, rfl, gz, _, rfl, iteF ?_⟩
      refine ⟨_, rfl, _, rfl, ca, _, rfl, gz, t2, _, rfl, SqT.of et2, rfl, _, _, rfl, _, _, rfl, rfl, ?_⟩
      refine ⟨_, rfl, s, dx, _, rfl, hi, rfl, _, rfl, _, rfl, s, d, st, p, up, da, rs, D, c, rfl, h, rd_some hD (okc c hc), okc c hc, fun H1 l1 m1 n1 e1 => ?_⟩
      refine ⟨_, rfl, rfl, _, rfl, iteF ⟨_, rfl, q c hc rfl H1 l1 m1 n1 e1⟩⟩
    · have gz := DtM.no (H1 := H) (b := t) (k := kI pl) hcs (hid_same _ _) (fun z => by
        obtain ⟨c, hc, e⟩ := List.mem_map.mp z
        exact hm (List.mem_map.mpr ⟨c, hc, kI_inj e⟩)) (by rw [kI_v]; exact ht)
      exact ⟨_, rfl, _, rfl, ca, _, rfl, gz, _, rfl, iteT (q0 hm)⟩
end
end K2

namespace K2
open PySem L2
def spAR (CS CD CC CR C : Addr) : Sp := fun vs H Q _ => ∃ (s d l : Addr) (st : DS) (p : DP) (up da : Int) (rs : List Ve) (os : List Int), vs = [.ref s, .ref l] ∧ StAt CS CD CC CR C H s d st p up da rs ∧ H l = some (.lst (os.map V.int)) ∧ ¬ ftS s d p st.cs.length l ∧ ((st.rd (dN da)).getD []).length + (4 + os.length) ≤ 900000 ∧ st.chg.length < 800 ∧
  ∀ H' p' st' q, SSt H H' s d st st' p p' → StAt CS CD CC CR C H' s d st' p' up da rs → App st st' (dN da) (w4 (sumO os) ++ os) → hid (ftS s d p' st'.cs.length) H' q = some (.tup [.int (((st.rd (dN da)).getD []).length : Int), .int (os.length : Int)]) → Q (.ref q) H'
def lastAs (rs : List Ve) : List Ar := (rs.getLast?.map Ve.as).getD []
def lookC (rs : List Ve) (n : Str) (pl : List Int) : Option Ck := ((lastAs rs).find? fun r => decide (r.n = n)).bind fun r => r.cs.find? fun c => decide (c.c = pl)
def again (D : List Int) (rs : List Ve) (n : Str) (pl os : List Int) : Option Ck := (lookC rs n pl).bind fun c => if recO D c = os then some c else none
def spRAg (CS CD CC CR C : Addr) : Sp := fun vs H Q _ => ∃ (s d t l : Addr) (st : DS) (p : DP) (up da : Int) (rs : List Ve) (n : Str) (pl os D : List Int), vs = [.ref s, .str n, .ref t, .ref l] ∧ StAt CS CD CC CR C H s d st p up da rs ∧ H t = some (.tup (pl.map V.int)) ∧ H l = some (.lst (os.map V.int)) ∧ (st.rd (dN da)).getD [] = D ∧ OkV D rs ∧
  (again D rs n pl os = none → ∀ H', Same H H' → Q .non H') ∧ ∀ c, again D rs n pl os = some c → ∀ H' q, Same H H' → hid (ftS s d p st.cs.length) H' q = some (.tup [.int c.o, .int c.l]) → Q (.ref q) H'
theorem find_is {α β : Type} [DecidableEq β] {f : α → β} {l : List α} (nd : (l.map f).Nodup) {a : α} (h : a ∈ l) : l.find? (fun x => decide (f x = f a)) = some a := by
  induction l with
  | nil => cases h
  | cons b r ih =>
    rw [List.map_cons, List.nodup_cons] at nd
    rcases List.mem_cons.mp h with rfl | h
    · rw [List.find?_cons_of_pos (by simp)]
    · rw [List.find?_cons_of_neg (by simp; exact fun z => nd.1 (by rw [z]; exact List.mem_map.mpr ⟨a, h, rfl⟩))]
      exact ih nd.2 h
theorem find_no {α β : Type} [DecidableEq β] {f : α → β} {l : List α} {b : β} (h : b ∉ l.map f) : l.find? (fun x => decide (f x = b)) = none := by
  rw [List.find?_eq_none]
  intro x hx
  simp only [decide_eq_true_eq]
  exact fun z => h (z ▸ List.mem_map.mpr ⟨x, hx, rfl⟩)
theorem ck_nd {cs : List Ck} (h : AscL (cs.map Ck.c)) : (cs.map Ck.c).Nodup := h.imp fun {a b} z y => by
  subst y
  rw [lexL_lt] at z
  exact List.lt_irrefl _ (of_decide_eq_true z)
section
variable {P : Program} {w : World} {K : PySem.W.Frag} {mg : Str → Option Value} {base : Heap}
theorem sc_ar : FnScope ["self", "octets", "offset"] ["self", "octets"] (defScope sStoreAppendRecord) := ⟨rfl, rfl, rfl, by decide +kernel, rfl, by decide +kernel, by decide +kernel⟩
theorem ok_ar {f : Addr} {fd : FuncData} {fD : Addr} {CS CD CC CR C fI : Addr} {fS fN fP fW fU : Addr} {fdS fdN fdP fdW fdU : FuncData} (F : Fun K "_append_record" "Store._append_record" sStoreAppendRecord f fd) (M : Nm mg) (T : KC K CS fI SFf) (TD : KC K CD fD CDf) (GS : FnOk P w K mg base CX0 3 fS fdS ["self"] (spDSz CS CD CC CR C)) (mS : Meth K CS "data_size" fS) (bS : Binds K fdS ["self"] []) (GN : FnOk P w K mg base CX0 2 fN fdN ["self"] (spDN CS CD CC CR C)) (mN : Meth K CS "data_name" fN) (bN : Binds K fdN ["self"] []) (GP : FnOk P w K mg base CX0 4 fP fdP ["self", "name", "octets"] (spAp CD CC)) (mP : Meth K CD "append" fP) (bP : Binds K fdP ["self", "name", "octets"] []) (GW : FnOk P w K mg base CX0 1 fW fdW ["number"] spW4) (kW : PySem.W.keepIn K (.ref fW) = true) (bW : Binds K fdW ["number"] []) (gW : mg "write_four" = some (.ref fW)) (GU : FnOk P w K mg base CX0 1 fU fdU ["octets"] (spSum K)) (kU : PySem.W.keepIn K (.ref fU) = true) (bU : Binds K fdU ["octets"] []) (gU : mg "sum_of" = some (.ref fU)) : FnOk P w K mg base CX0 5 f fd ["self", "octets"] (spAR CS CD CC CR C) := by
  refine F.ok sc_ar (fun vs H Q E h => ?_) (fun cdv A outer s0 H vs Q E hr h => ?_)
  · obtain ⟨s, d, l, st, p, up, da, rs, os, rfl, h, hl, nl, len, hc, q⟩ := h
    rfl
  · obtain ⟨s, d, l, st, p, up, da, rs, os, rfl, h, hl, nl, len, hc, q⟩ := h
    refine ⟨_, (pss_cons (ps_set (i := 2) sc_ar.nd rfl (.inl rfl) (pe_meth0 (pv 0) T.cl mS GS (hr.mono (j := 3) (by decide)) bS .nil pass0))
      (pss_cons (ps_expr (pe_meth (pe_fld (pv 0) rfl) TD.cl mP GP hr bP .nil pass0 (pa_cons (pe_meth0 (pv 0) T.cl mN GN (hr.mono (j := 2) (by decide)) bN .nil pass0) (pa_cons (pe_op op_cat (pe_call GW (hr.mono (j := 1) (by decide)) (by rfl) gW kW bW .nil pass0 (pa_cons (pe_call GU (hr.mono (j := 1) (by decide)) (by rfl) gU kU bU .nil pass0 (pa_cons (pv 1) pa_nil)) pa_nil)) (pv 1)) pa_nil))))
      (pss_one (ps_ret (pe_tup (pa_cons (pv 2) (pa_cons (pe_callB call_len_seq (by rfl) M.len PySem.boot_len (pa_cons (pv 1) pa_nil)) pa_nil))))))), ?_⟩
    obtain ⟨dx, ra, y, hi, hrt, hvs⟩ := h.i
    obtain ⟨dxd, hd⟩ := h.k.inst
    refine ⟨_, rfl, s, dx, _, rfl, hi, rfl, s, d, st, p, up, da, rs, rfl, h, ?_⟩
    refine ⟨_, rfl, s, CS, dx, _, .ref d, rfl, hi, T.cl, T.na _ (by decide +kernel), rfl, d, dxd, _, rfl, hd, rfl, _, rfl, s, dx, _, rfl, hi, rfl, s, d, st, p, up, da, rs, rfl, h, _, rfl, l, os, rfl, .inl (.inl hl), _, rfl, fun l1 n1 => ?_⟩
    have m1 := same_new (o := .lst ((w4 (sumO os)).map V.int)) n1
    have l4 : (w4 (sumO os)).length = 4 := rfl
    refine ⟨_, rfl, l1, l, _, _, rfl, rfl, upd_same, m1 _ _ hl, ?_, fun l2 n2 => ?_⟩
    · rw [List.length_map, List.length_map, l4]
      exact Nat.le_trans (m := 900000) (by omega) (by decide)
    have m2 := same_new (o := .lst ((w4 (sumO os)).map V.int ++ os.map V.int)) n2
    have m12 := m1.trans m2
    have n2H : H l2 = none := m1.free n2
    refine ⟨d, l2, st, p, dN da, w4 (sumO os) ++ os, rfl, h.k.same m12, h.g, by rw [upd_same, List.map_append], h.k.nfree n2H, dn_nm h.b, by rw [List.length_append, l4]; exact len, hc, fun H' p' st' stp app => ?_⟩
    have h2 := h.same m12
    have st2 := h2.stp stp app.nice
    have ss : SSt H H' s d st st' p p' := (SSt.same m12).trans stp.sst
    have hl' : H' l = some (.lst (os.map V.int)) := ss.o _ _ hl nl
    refine ⟨_, rfl, _, rfl, l, _, rfl, .inl (.inl (.inl hl')), (by show 2 ≤ sizeLine; decide), fun t nt => ?_⟩
    rw [List.length_map]
    have m3 := same_new (o := .tup [.int (((st.rd (dN da)).getD []).length : Int), .int (os.length : Int)]) nt
    exact q _ p' st' t (ss.seq m3) (st2.same m3) app (hid_mk (fun f => st2.occ _ f nt) upd_same)
theorem sc_rag : FnScope ["self", "name", "chunk", "octets", "_", "records", "offset", "length"] ["self", "name", "chunk", "octets"] (defScope sStoreRecordAgain) := ⟨rfl, rfl, rfl, by decide +kernel, rfl, by decide +kernel, by decide +kernel⟩
theorem ok_rag {f : Addr} {fd : FuncData} {CS CD CC CR C fI : Addr} {fL fA fO : Addr} {fdL fdA fdO : FuncData} (F : Fun K "_record_again" "Store._record_again" sStoreRecordAgain f fd) (T : KC K CS fI SFf) (GL : FnOk P w K mg base CX0 1 fL fdL ["self"] (spLt CS CD CC CR C)) (mL : Meth K CS "latest" fL) (bL : Binds K fdL ["self"] []) (GA : FnOk P w K mg base CX0 3 fA fdA ["self", "version"] (spAO CS CD CC CR C)) (mA : Meth K CS "_arrays_of" fA) (bA : Binds K fdA ["self", "version"] []) (GO : FnOk P w K mg base CX0 4 fO fdO ["self", "offset", "length"] (spSO CS CD CC CR C)) (mO : Meth K CS "sound_octets" fO) (bO : Binds K fdO ["self", "offset", "length"] []) : FnOk P w K mg base CX0 5 f fd ["self", "name", "chunk", "octets"] (spRAg CS CD CC CR C) := by
  refine F.ok sc_rag (fun vs H Q E h => ?_) (fun cdv A outer s0 H vs Q E hr h => ?_)
  · obtain ⟨s, d, t, l, st, p, up, da, rs, n, pl, os, D, rfl, h, ht, hl, hD, okv, q0, q⟩ := h
    rfl
  · obtain ⟨s, d, t, l, st, p, up, da, rs, n, pl, os, D, rfl, h, ht, hl, hD, okv, q0, q⟩ := h
    have hu := hu_of hr
    refine ⟨_, (pss_cons (ps_if (pt_cmpR op_eq (pe_meth0 (pv 0) T.cl mL GL (hr.mono (j := 1) (by decide)) bL .nil pass0) pe_int (nomark _)) (pss_one (ps_ret pe_non)) pss_nil)
      (pss_cons (ps_asg (pe_dget2 hu (pe_meth (pv 0) T.cl mA GA (hr.mono (j := 3) (by decide)) bA .nil pass0 (pa_cons (pe_meth0 (pv 0) T.cl mL GL (hr.mono (j := 1) (by decide)) bL .nil pass0) pa_nil)) (pv 1) (pe_tup (pa_cons pe_non (pa_cons pe_dnewT pa_nil))) ⟨rfl, rfl, rfl, rfl⟩) (pg_tup (by rfl) (pgs_cons (pg_name (i := 4) sc_rag.nd rfl (.inl rfl)) (pgs_cons (pg_name (i := 5) sc_rag.nd rfl (.inl rfl)) pgs_nil))))
      (pss_cons (ps_if (pt_cmp (pc_dnotin hu (pv 2) (pv 5))) (pss_one (ps_ret pe_non)) pss_nil)
      (pss_cons (ps_asg (pe_dget hu (pv 5) (pv 2) (fun _ _ => rfl)) (pg_tup (by rfl) (pgs_cons (pg_name (i := 6) sc_rag.nd rfl (.inl rfl)) (pgs_cons (pg_name (i := 7) sc_rag.nd rfl (.inl rfl)) pgs_nil))))
      (pss_one (ps_ret (pe_ifExp (pt_cmpR (op_eqD hr.units) (pe_meth (pv 0) T.cl mO GO hr bO .nil pass0 (pa_cons (pv 6) (pa_cons (pv 7) pa_nil))) (pv 3) (nomark _)) (pe_dget hu (pv 5) (pv 2) (fun _ _ => rfl)) pe_non))))))), ?_⟩
    obtain ⟨dx, ra, y, hi, hrt, hvs⟩ := h.i
    refine ⟨_, rfl, s, dx, _, rfl, hi, rfl, s, d, st, p, up, da, rs, rfl, h, rfl, _, rfl, ?_⟩
    cases el : rs.getLast? with
    | none =>
      have e0 : lastNo rs = 0 := by unfold lastNo; rw [el]; rfl
      have ea : again D rs n pl os = none := by unfold again lookC lastAs; rw [el]; rfl
      exact iteB (by rw [e0]; rfl) (q0 ea H (Same.refl H))
    | some r =>
      have hr1 : r ∈ rs := List.mem_of_getLast? el
      have wv := h.w.v r hr1
      have e0 : lastNo rs = r.no := by unfold lastNo; rw [el]; rfl
      have e1 : lastAs rs = r.as := by unfold lastAs; rw [el]; rfl
      have no := wv.no
      refine iteBF (by rw [e0]; exact decide_eq_false fun z => by have := V.int.inj z; omega) ?_
      refine ⟨_, rfl, s, dx, _, rfl, hi, rfl, _, rfl, s, dx, _, rfl, hi, rfl, s, d, st, p, up, da, rs, rfl, h, s, d, st, p, up, da, rs, r, (by rw [e0] <;> rfl), h, hr1, fun z hz => ?_⟩
      obtain ⟨va, xs, ez, ev, al⟩ := id hz
      subst ez
      have ev2 := (hid_some ev).2
      refine ⟨va, rfl, .inl ⟨_, Rd.of ev2⟩, _, rfl, fun c0 nc0 => ⟨(by show 2 ≤ sizeLine; decide), fun t0 nt0 => ?_⟩⟩
      have m1 := same_new (o := .dT []) nc0
      have m2 := same_new (o := .tup [.non, .ref c0]) nt0
      have m12 := m1.trans m2
      have ht2 := m12 _ _ ht
      by_cases hm : n ∈ r.as.map Ar.n
      · obtain ⟨a, ha1, rfl⟩ := List.mem_map.mp hm
        have fa := find_is (f := Ar.n) wv.nm.1 ha1
        obtain ⟨k1, k2, k3⟩ := wv.ck a ha1
        obtain ⟨w0, g, b, u, v, ew, et, hsh, hcs⟩ := DkM.get hz wv.nd ha1
        subst ew
        have g := dget_same (dget_same g (hid_same _ _)) m12
        have et2 := m12 _ _ (hid_some et).2
        obtain ⟨ca, ec⟩ := hcs.ref
        subst ec
        refine ⟨_, g, b, _, rfl, SqT.of et2, rfl, _, _, rfl, _, _, rfl, rfl, ?_⟩
        by_cases hp : pl ∈ a.cs.map Ck.c
        · obtain ⟨c, hc, rfl⟩ := List.mem_map.mp hp
          have lc : lookC rs a.n c.c = some c := by
            unfold lookC
            rw [e1, fa]
            exact find_is (f := Ck.c) (ck_nd k1) hc
          obtain ⟨z, gz, t2, rfl, ht3⟩ := DtM.get (b := t) hcs ((hid_same _ _).trans m12) (asc_nd k1) hc (by rw [kI_v]; exact ht2)
          have et3 := m12 _ _ (hid_some ht3).2
          refine ⟨_, rfl, _, rfl, ca, _, rfl, gz, _, rfl, iteF ?_⟩
          refine ⟨_, rfl, _, rfl, ca, _, rfl, gz, t2, _, rfl, SqT.of et3, rfl, _, _, rfl, _, _, rfl, rfl, ?_⟩
          have ok := okv r hr1 a ha1 c hc
          have h2 := h.same m12
          refine ⟨_, rfl, s, dx, _, rfl, m12 _ _ hi, rfl, _, rfl, _, rfl, s, d, st, p, up, da, rs, D, c, rfl, h2, rd_some hD ok, ok, fun H1 l1 m3 n1 e3 => ?_⟩
          refine ⟨_, rfl, eqd_ints e3 (m3 _ _ (m12 _ _ hl)) ⟨_, rfl, ?_⟩⟩
          have ea : again D rs a.n c.c os = if recO D c = os then some c else none := by
            unfold again
            rw [lc]
            rfl
          by_cases eo : recO D c = os
          · rw [if_pos eo] at ea
            refine iteB (decide_eq_true eo) ⟨_, rfl, _, rfl, ca, _, rfl, dget_same gz m3, ?_⟩
            exact q c ea H1 t2 (m12.trans m3) (hid_of_same (m12.trans m3) _ _ ht3)
          · rw [if_neg eo] at ea
            exact iteBF (decide_eq_false eo) (q0 ea H1 (m12.trans m3))
        · have lc : lookC rs a.n pl = none := by
            unfold lookC
            rw [e1, fa]
            exact find_no (f := Ck.c) hp
          have ea : again D rs a.n pl os = none := by
            unfold again
            rw [lc]
            rfl
          have gz := DtM.no (b := t) (k := kI pl) hcs ((hid_same _ _).trans m12) (fun z => by
            obtain ⟨c, hc, e⟩ := List.mem_map.mp z
            exact hp (List.mem_map.mpr ⟨c, hc, kI_inj e⟩)) (by rw [kI_v]; exact ht2)
          exact ⟨_, rfl, _, rfl, ca, _, rfl, gz, _, rfl, iteT (q0 ea _ m12)⟩
      · have lc : lookC rs n pl = none := by
          unfold lookC
          rw [e1, find_no (f := Ar.n) hm]
          rfl
        have ea : again D rs n pl os = none := by
          unfold again
          rw [lc]
          rfl
        have g := dget_same (dget_same (DkM.no (k := Sum.inr n) hz (fun z => by
          obtain ⟨x, hx, e⟩ := List.mem_map.mp z
          exact hm (List.mem_map.mpr ⟨x, hx, Sum.inr.inj e⟩))) (hid_same _ _)) m12
        have ec0 := m2 _ _ (upd_same (a := c0) (H := H) (o := .dT []))
        refine ⟨none, g, t0, _, rfl, SqT.of upd_same, rfl, _, _, rfl, _, _, rfl, rfl, ?_⟩
        exact ⟨_, rfl, _, rfl, c0, _, rfl, DGet.t (k := kI pl) ec0 (by rw [kI_v]; exact ht2), _, rfl, iteT (q0 ea _ m12)⟩
end
end K2

namespace K2
open PySem L2
theorem dcT_it {J : It} {n : Nat} {G : Hp → Prop} {Y : Nat → Hp → V → Hp → Prop} (w : Walk J n G Y) {g : TG} {tt : TT} {tk tv : TE} {vs : List Nat} {σ : St} {H1 : Hp} {D : Addr} {Qd : Hp → Prop} (Pv : Nat → Hp → Prop) (h0 : Pv 0 (upd H1 D (.dT []))) (hG : ∀ i H, i ≤ n → Pv i H → G H)
    (hs : ∀ i x H H', i < n → Pv i H → Y i H x H' → g x (wipe σ vs) H' fun σ2 H2 => wipe σ2 vs = wipe σ vs ∧ tt σ2 H2 fun b H3 =>
      if b = true then tk σ2 H3 fun y H4 => tv σ2 H4 fun z H5 => ∃ H6, DPut H5 D y z H6 ∧ Pv (i + 1) H6 else Pv (i + 1) H3) (hd : ∀ H, Pv n H → Qd H) :
    ∃ W : Nat → Nat → Hp → Prop, (∃ m, W 0 m (upd H1 D (.dT []))) ∧ ∀ i m H, W i m H →
      (J.stop i H ∧ Qd H) ∨ (J.go i H ∧ ∃ Nx : Hp → Prop, (∀ H', Nx H' → ∃ m', m' < m ∧ W (i + 1) m' H') ∧ ∀ x H', J.yld i H x H' → g x (wipe σ vs) H' fun σ2 H2 => wipe σ2 vs = wipe σ vs ∧ tt σ2 H2 fun b H3 =>
        if b = true then tk σ2 H3 fun y H4 => tv σ2 H4 fun z H5 => ∃ H6, DPut H5 D y z H6 ∧ Nx H6 else Nx H3) := by
  refine ⟨fun i m H => m = n - i ∧ i ≤ n ∧ Pv i H, ⟨n, by simp, Nat.zero_le _, h0⟩, ?_⟩
  rintro i m H ⟨rfl, hi, p⟩
  have q := hG i H hi p
  by_cases hlt : i < n
  · exact .inr ⟨w.goes i H hlt q, Pv (i + 1), fun H' p' => ⟨n - (i + 1), by omega, rfl, hlt, p'⟩, fun x H' y => hs i x H H' hlt p (w.yields i H x H' hlt q y)⟩
  · have e : i = n := by omega
    subst e
    exact .inl ⟨w.stops H q, hd H p⟩
theorem nd_take {α β : Type} {f : α → β} {l : List α} (nd : (l.map f).Nodup) {i : Nat} (h : i < l.length) : f l[i] ∉ (l.take i).map f := by
  intro z
  obtain ⟨a, ha, e⟩ := List.mem_map.mp z
  obtain ⟨j, hj, ej⟩ := List.mem_take_iff_getElem.mp ha
  have hj' : j < i := by omega
  have := List.pairwise_iff_getElem.mp nd j i (by rw [List.length_map]; omega) (by rw [List.length_map]; exact h) hj'
  rw [List.getElem_map, List.getElem_map, ej] at this
  exact this e
theorem pi_tupK {X : Cx} (K : PySem.W.Frag) (hK : X.K = K) {tg l : Expr} {tl : TE} (hl : PE X l tl) : PI X tg l (iTup K tl) := by subst hK; exact pi_tup hl
def spRB (CR C : Addr) : Sp := fun vs H Q _ => ∃ (F : Addr → Prop) (ra : Addr) (up da : Int) (rs : List Ve), vs = [.ref ra] ∧ (∀ a, F a → H a ≠ none) ∧ RtAt (hid F H) CR C (.ref ra) up da rs ∧ WfR rs ∧ ∀ H' y, Same H H' → VsD (hid F H') C y rs → Q y H'
/-- where the heap has grown, what was hidden stays so -/
theorem hid_put {F : Addr → Prop} {H H1 H2 : Hp} {p : Addr} {o : HO} (occ : ∀ a, F a → H a ≠ none) (n : H p = none) (m : Same H1 H2) {q : Addr} {x : HO} (e : hid F H1 q = some x) (ne : q ≠ p) : hid F (upd H2 p o) q = some x := by
  obtain ⟨f, e⟩ := hid_some e
  exact hid_mk f (by rw [upd_ne ne]; exact m _ _ e)
section
variable {P : Program} {w : World} {K : PySem.W.Frag} {mg : Str → Option Value} {base : Heap}
theorem sc_rb : FnScope ["root", "found", "number", "arrays", "chunk", "offset", "length", "name", "shape", "chunks"] ["root"] (defScope sRecordsByVersion) := ⟨rfl, rfl, rfl, by decide +kernel, rfl, by decide +kernel, by decide +kernel⟩
theorem ok_rb {f : Addr} {fd : FuncData} {CR C fR : Addr} (F : Fun K "records_by_version" "records_by_version" sRecordsByVersion f fd) (R : KC K CR fR RHf) : FnOk P w K mg base CX0 1 f fd ["root"] (spRB CR C) := by
  refine F.ok sc_rb (fun vs H Q E h => ?_) (fun cdv A outer s0 H vs Q E hr h => ?_)
  · obtain ⟨F0, ra, up, da, rs, rfl, occ, hrt, w, q⟩ := h
    rfl
  · obtain ⟨F0, ra, up, da, rs, rfl, occ, hrt, w, q⟩ := h
    have hu := hu_of hr
    have hu1 := Nat.lt_of_succ_lt hu
    refine ⟨_, (pss_cons (ps_set (i := 1) sc_rb.nd rfl (.inl rfl) pe_dnewK)
      (pss_cons (ps_for PassesOwn.never rfl (pi_tup (pe_fld (pv 0) rfl)) (pg_tup (by rfl) (pgs_cons (pg_name (i := 2) sc_rb.nd rfl (.inl rfl)) (pgs_cons (pg_name (i := 3) sc_rb.nd rfl (.inl rfl)) pgs_nil))) (pss_one (ps_dput hu (pv 1) (pv 2) (pe_dc (own := [("name", 7), ("shape", 8), ("chunks", 9)]) (g := gTup K 3 (gCons (gName 7) (gCons (gName 8) (gCons (gName 9) gNil)))) (tt := tYes) rfl sc_rb.nd (pi_tup (pv 3)) (blkOk_by (N := ["root", "found", "number", "arrays", "chunk", "offset", "length", "name", "shape", "chunks"]) (sc := defScope sRecordsByVersion) (by decide +kernel)) (fun _ _ _ _ _ => pg_tupK K rfl (by rfl) (pgs_cons (pg_name (i := 7) sc_rb.nd rfl (Or.inl rfl)) (pgs_cons (pg_name (i := 8) sc_rb.nd rfl (Or.inl rfl)) (pgs_cons (pg_name (i := 9) sc_rb.nd rfl (Or.inl rfl)) pgs_nil)))) (fun _ _ _ _ _ => pts_nil) (fun _ _ _ _ _ => pv 7) (fun _ _ _ _ _ => pe_tup (pa_cons (pv 8) (pa_cons (pe_dcT (own := [("chunk", 4), ("offset", 5), ("length", 6)]) (g := gTup K 3 (gCons (gName 4) (gCons (gName 5) (gCons (gName 6) gNil)))) (tt := tYes) rfl hu1 sc_rb.nd (pi_tupK K rfl (pv 9)) (blkOk_by (by rfl)) (fun _ _ _ _ _ => pg_tupK K rfl (by rfl) (pgs_cons (pg_name (i := 4) sc_rb.nd rfl (Or.inl rfl)) (pgs_cons (pg_name (i := 5) sc_rb.nd rfl (Or.inl rfl)) (pgs_cons (pg_name (i := 6) sc_rb.nd rfl (Or.inl rfl)) pgs_nil)))) (fun _ _ _ _ _ => pts_nil) (fun _ _ _ _ _ => pv 4) (fun _ _ _ _ _ => pe_tup (pa_cons (pv 5) (pa_cons (pv 6) pa_nil)))) pa_nil)))) rfl)))
      (pss_one (ps_ret (pv 1))))), ?_⟩
    obtain ⟨a, dxr, u, er, hra, vt, vx, ru, hvt, hva⟩ := id hrt
    cases er
    subst ru
    have hra' := (hid_some hra).2
    have hvt' := (hid_some hvt).2
    have hvl := hva.1
    refine fun p np => ?_
    have m0 : Same H (upd H p (.dK [])) := same_new np
    obtain ⟨F1, eF1⟩ : ∃ F1 : Addr → Prop, F1 = fun a => F0 a ∨ a = p := ⟨_, rfl⟩
    have nF1 : ∀ {a}, F1 a → F0 a ∨ a = p := fun f => by rw [eF1] at f; exact f
    have mkF1 : ∀ {a}, F0 a ∨ a = p → F1 a := fun f => by rw [eF1]; exact f
    have pF0 : ¬ F0 p := fun f => occ _ f np
    refine ⟨_, rfl, ra, CR, dxr, _, .ref vt, rfl, m0 _ _ hra', R.cl, R.na _ (by decide +kernel), rfl, vt, rfl, ⟨_, SqT.of (m0 _ _ hvt')⟩, for_it (walk_tup (xs := vx)) (fun i σ H2 => ∃ y2 y3, σ = [some (.ref ra), some (.ref p), y2, y3, none, none, none, none, none, none] ∧ Same H H2 ∧ ∃ ys, H2 p = some (.dK (((rs.take i).map fun r : Ve => (Sum.inl r.no : Key)).zip ys)) ∧ All (fun y r => AsD (hid F1 H2) C y r.as) ys (rs.take i)) ?_ ?_ ?_ ?_⟩
    · exact ⟨none, none, rfl, m0, [], upd_same, All.nil⟩
    · rintro i σ H2 hi ⟨y2, y3, rfl, m2, _⟩
      exact SqT.of (m2 _ _ hvt')
    · rintro i x σ H2 Hx hi ⟨y2, y3, rfl, m2, ys, ep, al⟩ ⟨rfl, hx⟩
      have hi2 : i < rs.length := by omega
      have wv := w.v _ (List.getElem_mem hi2)
      have mS : Same (hid F0 H) (hid F1 Hx) := fun a o e => by
        obtain ⟨f, e⟩ := hid_some e
        refine hid_mk (fun z => ?_) (m2 _ _ e)
        rcases nF1 z with z | z
        · exact f z
        · rw [z, np] at e; cases e
      have occ1 : ∀ a, F1 a → Hx a ≠ none := fun a f => by
        rcases nF1 f with f | f
        · intro z
          exact occ a f (m2.free z)
        · rw [f, ep]
          exact fun z => nomatch z
      obtain ⟨b, v, rfl, eb, at_, ax, rfl, eat, ala⟩ := hva.at hi2 hx
      have hal := ala.1
      have eb' := m2 _ _ (hid_some eb).2
      have eat' := m2 _ _ (hid_some eat).2
      refine ⟨b, _, rfl, SqT.of eb', rfl, _, _, rfl, _, _, rfl, rfl, ?_⟩
      refine ⟨_, rfl, at_, rfl, ⟨_, SqT.of eat'⟩, fun D nD => ?_⟩
      have fD : ¬ F1 D := fun f => occ1 _ f nD
      refine dc_it (walk_tup (xs := ax)) (fun j H3 => Same Hx H3 ∧ ∃ zs, H3 D = some (.dK (((rs[i].as.take j).map fun r : Ar => (Sum.inr r.n : Key)).zip zs)) ∧ All (ArD (hid F1 H3) C) zs (rs[i].as.take j)) ⟨same_new nD, [], upd_same, All.nil⟩ ?_ ?_ ?_
      · rintro j H3 hj ⟨m3, _⟩
        exact SqT.of (m3 _ _ eat')
      · rintro j x2 H3 Hy hj ⟨m3, zs, eD, alz⟩ ⟨rfl, hx2⟩
        have hj2 : j < rs[i].as.length := by omega
        obtain ⟨k1, k2, k3⟩ := wv.ck _ (List.getElem_mem hj2)
        generalize hcs : (rs[i].as[j]).cs = cs at k1 k2 k3
        obtain ⟨c, su, sv, rfl, ec, hsh, ct, cx, rfl, ect, alc⟩ := ala.at hj2 hx2
        rw [hcs] at alc
        have hcl := alc.1
        have ec' := m3 _ _ (m2 _ _ (hid_some ec).2)
        have ect' := m3 _ _ (m2 _ _ (hid_some ect).2)
        refine ⟨c, _, rfl, SqT.of ec', rfl, _, _, rfl, _, _, rfl, _, _, rfl, rfl, rfl, ?_⟩
        dsimp only [tYes]
        rw [if_pos rfl]
        refine ⟨_, rfl, _, rfl, _, rfl, ct, rfl, ⟨_, SqT.of ect'⟩, fun D2 nD2 => ?_⟩
        have nD2x : Hx D2 = none := m3.free nD2
        have fD2 : ¬ F1 D2 := fun f => occ1 _ f nD2x
        refine dcT_it (walk_tup (xs := cx)) (fun k H4 => Same Hy H4 ∧ ∃ ws, H4 D2 = some (.dT (((cs.take k).map fun c : Ck => kI c.c).zip ws)) ∧ All (RcAt (hid F1 H4)) ws (cs.take k)) ⟨same_new nD2, [], upd_same, All.nil⟩ ?_ ?_ ?_
        · rintro k H4 hk ⟨m4, _⟩
          exact SqT.of (m4 _ _ ect')
        · rintro k x3 H4 Hz hk ⟨m4, ws, eD2, alw⟩ ⟨rfl, hx3⟩
          have hk2 : k < cs.length := by omega
          obtain ⟨e, f, rfl, ee, ef⟩ := alc.at hk2 hx3
          have m23 : Same Hx Hz := m3.trans m4
          have ee' := m23 _ _ (m2 _ _ (hid_some ee).2)
          have ef' := m23 _ _ (m2 _ _ (hid_some ef).2)
          refine ⟨e, _, rfl, SqT.of ee', rfl, _, _, rfl, _, _, rfl, _, _, rfl, rfl, rfl, ?_⟩
          dsimp only [tYes]
          rw [if_pos rfl]
          refine ⟨_, rfl, _, rfl, _, rfl, (by show 2 ≤ sizeLine; decide), fun t nt => ?_⟩
          have m5 := same_new (o := .tup [.int cs[k].o, .int cs[k].l]) nt
          have et5 : (upd Hz t (.tup [.int cs[k].o, .int cs[k].l])) t = some (.tup [.int cs[k].o, .int cs[k].l]) := upd_same
          have ft : ¬ F1 t := nF occ1 m23 nt
          generalize (upd Hz t (.tup [.int cs[k].o, .int cs[k].l])) = H5 at m5 et5
          have eD2' := m5 _ _ eD2
          have lw := alw.1
          have e3 : cs.take (k + 1) = cs.take k ++ [cs[k]] := by rw [List.take_add_one, List.getElem?_eq_getElem hk2]; rfl
          have nk : kI (cs[k]).c ∉ (cs.take k).map fun c : Ck => kI c.c := nd_take (f := fun c : Ck => kI c.c) (asc_nd k1) hk2
          refine ⟨_, DPut.t (k := kI (cs[k]).c) eD2' (by rw [kI_v]; exact m5 _ _ ef') ?_, ?_⟩
          · rw [zip_len lw, List.length_take]
            exact small1000 (by omega)
          rw [zip_push (key := fun c : Ck => kI c.c) lw nk, ← e3]
          refine ⟨fun a o ea => ?_, ws ++ [.ref t], upd_same, ?_⟩
          · rw [upd_ne (ne_of_none ea nD2)]
            exact m5 _ _ (m4 _ _ ea)
          · rw [e3]
            have rec_ : ∀ {g r}, hid F1 H5 g = some (.tup r) → hid F1 (upd H5 D2 (.dT (((cs.take k ++ [cs[k]]).map fun c : Ck => kI c.c).zip (ws ++ [.ref t])))) g = some (.tup r) := fun {g r} e2 => hid_mk (hid_some e2).1 (by rw [upd_ne (ne_of (hid_some e2).2 eD2' (by intro z; cases z))]; exact (hid_some e2).2)
            exact All.push (alw.imp fun y c ⟨g, e1, e2⟩ => ⟨g, e1, rec_ (hid_of_same m5 _ _ e2)⟩) ⟨t, rfl, rec_ (hid_mk ft et5)⟩
        · rintro H4 ⟨m4, ws, eD2, alw⟩
          rw [hcl, List.take_length] at eD2 alw
          refine ⟨(by show 2 ≤ sizeLine; decide), fun t nt => ?_⟩
          have m24 : Same Hx H4 := m3.trans m4
          have m5 := same_new (o := .tup [su, .ref D2]) nt
          have et5 : (upd H4 t (.tup [su, .ref D2])) t = some (.tup [su, .ref D2]) := upd_same
          have ft : ¬ F1 t := nF occ1 m24 nt
          generalize (upd H4 t (.tup [su, .ref D2])) = H5 at m5 et5
          have eD' := m5 _ _ (m4 _ _ eD)
          have lz := alz.1
          have e3 : rs[i].as.take (j + 1) = rs[i].as.take j ++ [rs[i].as[j]] := by rw [List.take_add_one, List.getElem?_eq_getElem hj2]; rfl
          have nk : (Sum.inr (rs[i].as[j]).n : Key) ∉ (rs[i].as.take j).map fun r : Ar => (Sum.inr r.n : Key) := nd_take (f := fun r : Ar => (Sum.inr r.n : Key)) wv.nd hj2
          refine ⟨_, Sum.inr (rs[i].as[j]).n, rfl, eD', ?_, ?_⟩
          · rw [zip_len lz, List.length_take]
            have := wv.ln
            exact small1000 (by omega)
          rw [zip_push (key := fun r : Ar => (Sum.inr r.n : Key)) lz nk, ← e3]
          refine ⟨fun a o ea => ?_, zs ++ [.ref t], upd_same, ?_⟩
          · rw [upd_ne (ne_of_none ea nD)]
            exact m5 _ _ (m4 _ _ (m3 _ _ ea))
          generalize hz6 : (((rs[i].as.take (j + 1)).map fun r : Ar => (Sum.inr r.n : Key)).zip (zs ++ [.ref t])) = z6
          have kD : ∀ {a x}, hid F1 H5 a = some x → (∀ k, x ≠ .dK k) → hid F1 (upd H5 D (.dK z6)) a = some x := fun {a x} ea nk => hid_mk (hid_some ea).1 (by
            rw [upd_ne (ne_of (hid_some ea).2 eD' (nk _))]
            exact (hid_some ea).2)
          have kX : ∀ {a x}, hid F0 H a = some x → hid F1 (upd H5 D (.dK z6)) a = some x := fun {a x} ea => by
            have e2 := hid_of_same (m24.trans m5) _ _ (mS _ _ ea)
            refine hid_mk (hid_some e2).1 ?_
            rw [upd_ne (ne_of_none (hid_some (mS _ _ ea)).2 nD)]
            exact (hid_some e2).2
          rw [e3]
          refine All.push (alz.imp fun y r hr2 => ?_) ⟨t, su, .ref D2, rfl, kD (hid_mk ft et5) (fun _ z => nomatch z), hsh.same fun a o ea => kX ea, D2, ws, rfl, ?_, ?_⟩
          · obtain ⟨b1, u1, v1, r1, r2, r3, b2, w2, r4, r5, r6⟩ := hr2
            have kY : ∀ {a x}, hid F1 Hy a = some x → (∀ k, x ≠ .dK k) → hid F1 (upd H5 D (.dK z6)) a = some x := fun ea nk => kD (hid_of_same (m4.trans m5) _ _ ea) nk
            refine ⟨b1, u1, v1, r1, kY r2 (fun _ z => nomatch z), ?_, b2, w2, r4, kY r5 (fun _ z => nomatch z), r6.imp fun y c ⟨g, e1, e2⟩ => ⟨g, e1, kY e2 (fun _ z => nomatch z)⟩⟩
            obtain ⟨s1, s2, s3, s4, s5, s6, ⟨t1, t2, t3, t4, t5⟩, ⟨t6, t7, t8, t9, t10⟩⟩ := r3
            exact ⟨s1, s2, s3, s4, s5, kY s6 (fun _ z => nomatch z), ⟨t1, t2, t3, kY t4 (fun _ z => nomatch z), t5.imp fun y c ⟨g, e1, e2⟩ => ⟨g, e1, kY e2 (fun _ z => nomatch z)⟩⟩, ⟨t6, t7, t8, kY t9 (fun _ z => nomatch z), t10.imp fun y c ⟨g, e1, e2⟩ => ⟨g, e1, kY e2 (fun _ z => nomatch z)⟩⟩⟩
          · rw [hcs]
            exact kD (hid_mk fD2 (m5 _ _ eD2)) (fun _ z => nomatch z)
          · rw [hcs]
            exact alw.imp fun y c ⟨g, e1, e2⟩ => ⟨g, e1, kD (hid_of_same m5 _ _ e2) (fun _ z => nomatch z)⟩
      · rintro H3 ⟨m3, zs, eD, alz⟩
        rw [hal, List.take_length] at eD alz
        have ly := al.1
        have ep3 := m3 _ _ ep
        have nk : (Sum.inl rs[i].no : Key) ∉ (rs.take i).map fun r : Ve => (Sum.inl r.no : Key) := nd_take (f := fun r : Ve => (Sum.inl r.no : Key)) w.nd hi2
        have e3 : rs.take (i + 1) = rs.take i ++ [rs[i]] := by rw [List.take_add_one, List.getElem?_eq_getElem hi2]; rfl
        refine ⟨_, rfl, _, rfl, p, _, rfl, DPut.k (k := Sum.inl rs[i].no) ep3 ?_, ?_⟩
        · rw [zip_len ly, List.length_take]
          have := w.l
          exact small1000 (by omega)
        rw [zip_push (key := fun r : Ve => (Sum.inl r.no : Key)) ly nk, ← e3]
        generalize hz6 : (((rs.take (i + 1)).map fun r : Ve => (Sum.inl r.no : Key)).zip (ys ++ [.ref D])) = z6
        have kP : Same (hid F1 H3) (hid F1 (upd H3 p (.dK z6))) := fun a o ea => hid_mk (hid_some ea).1 (by
          rw [upd_ne (fun z => (hid_some ea).1 (mkF1 (.inr z)))]
          exact (hid_some ea).2)
        refine ⟨_, _, rfl, fun a o ea => ?_, ys ++ [.ref D], by rw [upd_same, hz6], ?_⟩
        · rw [upd_ne (ne_of_none ea np)]
          exact m3 _ _ (m2 _ _ ea)
        · rw [e3]
          exact All.push (al.imp fun y r h => h.same ((hid_of_same m3).trans kP)) (AsD.same ⟨D, zs, rfl, hid_mk fD eD, alz⟩ kP)
    · rintro σ H2 ⟨y2, y3, rfl, m2, ys, ep, al⟩
      rw [hvl, List.take_length] at ep al
      exact ⟨_, rfl, q H2 _ m2 ⟨p, ys, rfl, hid_mk pF0 ep, al.imp fun y r h => h.same (hid_le fun a f => mkF1 (.inl f))⟩⟩
end
end K2

namespace K2
open PySem L2
def sf0 (d : Addr) : List (Str × V) := [("disk", .ref d)]
def sf1 (d ra : Addr) : List (Str × V) := [("disk", .ref d), ("_root", .ref ra)]
structure Neq (CS CD CC CR C : Addr) : Prop where
  n1 : CD ≠ CR
  n2 : CD ≠ C
  n3 : CC ≠ CR
  n4 : CC ≠ C
  n5 : CS ≠ CR
  n6 : CS ≠ C
def spTR (CS CR C : Addr) : Sp := fun vs H Q _ => ∃ (F : Addr → Prop) (s dx d ra : Addr) (up da : Int) (rs : List Ve) (fs : List (Str × V)), vs = [.ref s, .ref ra] ∧ H s = some (.ins CS dx fs) ∧ (fs = sf0 d ∨ ∃ ra0 y0, fs = sfs d ra0 y0) ∧ F s ∧ (∀ a, F a → H a ≠ none) ∧ RtAt (hid F H) CR C (.ref ra) up da rs ∧ WfR rs ∧
  ∀ H' y, (∀ a o, H a = some o → a ≠ s → H' a = some o) → H' s = some (.ins CS dx (sfs d ra y)) → VsD (hid F H') C y rs → Q .non H'
def RootIs (st : DS) (up da : Int) (rs : List Ve) : Prop := (st.rd "root" = none ∧ up = 1 ∧ da = 0 ∧ rs = []) ∨ (st.rd "root" = some (eRt up da rs ++ w4 (sumO (eRt up da rs))) ∧ GRt up da rs)
def spRO (CD CC CR C : Addr) : Sp := fun vs H Q _ => ∃ (d : Addr) (st : DS) (p : DP) (up da : Int) (rs : List Ve), vs = [.ref d] ∧ DkAt CD CC H d st p ∧ Gd st ∧ RootIs st up da rs ∧ ∀ H' v, Same H H' → RtAt H' CR C v up da rs → Q v H'
/-- StAt, where what G names is hidden as well -/
def StG (CS CR C : Addr) (H : Hp) (s d : Addr) (p : DP) (n : Nat) (G : Addr → Prop) (up da : Int) (rs : List Ve) : Prop := ∃ (dx ra : Addr) (y : V), H s = some (.ins CS dx (sfs d ra y)) ∧ RtAt (hid (fun a => ftS s d p n a ∨ G a) H) CR C (.ref ra) up da rs ∧ VsD (hid (fun a => ftS s d p n a ∨ G a) H) C y rs
def Knd (CR C : Addr) (o : HO) : Prop := (∀ r, o ≠ .tup r) ∧ (∀ dx fs, o ≠ .ins CR dx fs) ∧ ∀ dx fs, o ≠ .ins C dx fs
def GOk (CR C : Addr) (H : Hp) (s d : Addr) (p : DP) (n : Nat) (G : Addr → Prop) : Prop := ∀ a, G a → ¬ ftS s d p n a ∧ ∃ o, H a = some o ∧ Knd CR C o
theorem GOk.sst {CR C : Addr} {H H' : Hp} {s d : Addr} {st st' : DS} {p p' : DP} {G : Addr → Prop} (g : GOk CR C H s d p st.cs.length G) (m : SSt H H' s d st st' p p') : GOk CR C H' s d p' st'.cs.length G := fun a ga => by
  obtain ⟨n, o, e, k⟩ := g a ga
  refine ⟨fun f => ?_, o, m.o _ _ e n, k⟩
  rcases m.w a f with z | z
  · exact n z
  · rw [z] at e; cases e
theorem RtAt.hG {CR C : Addr} {H : Hp} {s d : Addr} {p : DP} {n : Nat} {G : Addr → Prop} {x : V} {up da : Int} {rs : List Ve} (h : RtAt (hid (ftS s d p n) H) CR C x up da rs) (g : GOk CR C H s d p n G) : RtAt (hid (fun a => ftS s d p n a ∨ G a) H) CR C x up da rs := by
  have h1 := h.kind (F := G) (fun a ga o e => by
    obtain ⟨_, o', e', k⟩ := g a ga
    rw [(hid_some e).2] at e'
    cases e'
    exact k)
  exact h1.same fun a o e => by
    obtain ⟨n1, e⟩ := hid_some e
    obtain ⟨n2, e⟩ := hid_some e
    exact hid_mk (fun z => z.elim n2 n1) e
def spSI (CS CD CC CR C : Addr) : Sp := fun vs H Q _ => ∃ (x dx d : Addr) (st : DS) (p : DP) (up da : Int) (rs : List Ve) (G : Addr → Prop), vs = [.ref x, .ref d] ∧ H x = some (.ins CS dx []) ∧ DkAt CD CC H d st p ∧ ¬ foot d p st.cs.length x ∧ (∀ a, G a → a ≠ x ∧ ∃ o, H a = some o ∧ Knd CR C o) ∧ Nice st ∧ RootIs st up da rs ∧ (0 ≤ da ∧ da < 60) ∧ WfR rs ∧ (∀ n, st.rd n ≠ none → n = "root" ∨ n = dN da) ∧
  ∀ H', (∀ a o, H a = some o → a ≠ x → H' a = some o) → StAt CS CD CC CR C H' x d st p up da rs → StG CS CR C H' x d p st.cs.length G up da rs → Q .non H'
theorem dn_starts : ∀ i : Nat, i < 60 → Txt.startswith (dN (i : Int)) "data." = true := by decide +kernel
theorem root_starts : Txt.startswith "root" "data." = false := by decide +kernel
theorem root_new : ("root" : Str) ≠ "root.new" := by decide +kernel
section
variable {P : Program} {w : World} {K : PySem.W.Frag} {mg : Str → Option Value} {base : Heap}
theorem sc_tr : FnScope ["self", "root"] ["self", "root"] (defScope sStoreTakeRoot) := ⟨rfl, rfl, rfl, by decide +kernel, rfl, by decide +kernel, by decide +kernel⟩
theorem ok_tr {f : Addr} {fd : FuncData} {CS CR C fI : Addr} {fB : Addr} {fdB : FuncData} (F : Fun K "_take_root" "Store._take_root" sStoreTakeRoot f fd) (T : KC K CS fI SFf) (GB : FnOk P w K mg base CX0 1 fB fdB ["root"] (spRB CR C)) (kB : PySem.W.keepIn K (.ref fB) = true) (bB : Binds K fdB ["root"] []) (gB : mg "records_by_version" = some (.ref fB)) : FnOk P w K mg base CX0 2 f fd ["self", "root"] (spTR CS CR C) := by
  refine F.ok sc_tr (fun vs H Q E h => ?_) (fun cdv A outer s0 H vs Q E hr h => ?_)
  · obtain ⟨F0, s, dx, d, ra, up, da, rs, fs, rfl, hs, hf, fS, occ, hrt, w, q⟩ := h
    rfl
  · obtain ⟨F0, s, dx, d, ra, up, da, rs, fs, rfl, hs, hf, fS, occ, hrt, w, q⟩ := h
    refine ⟨_, (pss_cons (ps_fld (pv 0) (pv 1) rfl)
      (pss_one (ps_fld (pv 0) (pe_call GB hr (by rfl) gB kB bB .nil pass0 (pa_cons (pv 1) pa_nil)) rfl))), ?_⟩
    obtain ⟨f1, e1, e2⟩ : ∃ f1, putF "_root" (.ref ra) fs = f1 ∧ (f1 = sf1 d ra ∨ ∃ y0, f1 = sfs d ra y0) := by
      rcases hf with rfl | ⟨ra0, y0, rfl⟩
      · exact ⟨_, rfl, .inl rfl⟩
      · exact ⟨_, rfl, .inr ⟨y0, rfl⟩⟩
    have l1 : fs.length < 1000 := by
      rcases hf with rfl | ⟨_, _, rfl⟩
      · show 1 < 1000; decide
      · show 3 < 1000; decide
    have l2 : f1.length < 1000 := by
      rcases e2 with rfl | ⟨_, rfl⟩
      · show 2 < 1000; decide
      · show 3 < 1000; decide
    have e3 : ∀ y, putF "_versions" y f1 = sfs d ra y := fun y => by
      rcases e2 with rfl | ⟨_, rfl⟩
      · rfl
      · rfl
    refine ⟨_, rfl, _, rfl, s, CS, dx, fs, rfl, hs, T.cl, T.na _ (by decide +kernel), l1, ?_⟩
    rw [e1]
    have kh : Same (hid F0 H) (hid F0 (upd H s (.ins CS dx f1))) := fun a o e => hid_mk (hid_some e).1 (by
      rw [upd_ne (show a ≠ s from fun z => (hid_some e).1 (z ▸ fS))]
      exact (hid_some e).2)
    refine ⟨_, rfl, F0, ra, up, da, rs, rfl, fun a f => ?_, hrt.same kh, w, fun H2 y m2 hy => ?_⟩
    · by_cases z : a = s
      · rw [z, upd_same]
        exact fun z => nomatch z
      · rw [upd_ne z]
        exact occ a f
    have hs2 := m2 _ _ (upd_same (a := s) (H := H) (o := .ins CS dx f1))
    refine ⟨_, rfl, s, CS, dx, f1, rfl, hs2, T.cl, T.na _ (by decide +kernel), l2, ?_⟩
    rw [e3]
    have kh2 : Same (hid F0 H2) (hid F0 (upd H2 s (.ins CS dx (sfs d ra y)))) := fun a o e => hid_mk (hid_some e).1 (by
      rw [upd_ne (show a ≠ s from fun z => (hid_some e).1 (z ▸ fS))]
      exact (hid_some e).2)
    exact q _ y (fun a o e n => by rw [upd_ne n]; exact m2 _ _ (by rw [upd_ne n]; exact e)) upd_same (hy.same kh2)
theorem sc_ro : FnScope ["disk", "size"] ["disk"] (defScope sRootOn) := ⟨rfl, rfl, rfl, by decide +kernel, rfl, by decide +kernel, by decide +kernel⟩
theorem ok_ro {f : Addr} {fd : FuncData} {CD CC CR C fD0 fR : Addr} {fdR : FuncData} {fZ fA fD : Addr} {fdZ fdA fdD : FuncData} (F : Fun K "root_on" "root_on" sRootOn f fd) (Y : CtS mg) (TD : KC K CD fD0 CDf) (R : KC K CR fR RHf) (GR : FnOk P w K mg base CX0 1 fR fdR ["self", "upcoming", "data", "versions"] (RIn CR C)) (bR : Binds K fdR ["self", "upcoming", "data", "versions"] []) (gR : mg "Root" = some (.ref CR)) (GZ : FnOk P w K mg base CX0 1 fZ fdZ ["self", "name"] (spSz CD CC)) (mZ : Meth K CD "size" fZ) (bZ : Binds K fdZ ["self", "name"] []) (GA : FnOk P w K mg base CX0 1 fA fdA ["self", "name", "start", "count"] (spRf CD CC)) (mA : Meth K CD "read" fA) (bA : Binds K fdA ["self", "name", "start", "count"] []) (GD : FnOk P w K mg base CX0 7 fD fdD ["octets"] (spDR CR C)) (kD : PySem.W.keepIn K (.ref fD) = true) (bD : Binds K fdD ["octets"] []) (gD : mg "decode_root" = some (.ref fD)) : FnOk P w K mg base CX0 8 f fd ["disk"] (spRO CD CC CR C) := by
  refine F.ok sc_ro (fun vs H Q E h => ?_) (fun cdv A outer s0 H vs Q E hr h => ?_)
  · obtain ⟨d, st, p, up, da, rs, rfl, h, g, ri, q⟩ := h
    rfl
  · obtain ⟨d, st, p, up, da, rs, rfl, h, g, ri, q⟩ := h
    obtain ⟨rv, mrf, rrf⟩ := Y.rf
    refine ⟨_, (pss_cons (ps_set (i := 1) sc_ro.nd rfl (.inl rfl) (pe_meth (pv 0) TD.cl mZ GZ (hr.mono (j := 1) (by decide)) bZ .nil pass0 (pa_cons (pe_glob (by rfl) mrf rrf) pa_nil)))
      (pss_cons (ps_if (pt_cmpR op_isN (pv 1) pe_non (nomark _)) (pss_one (ps_ret (pe_make R.mkC GR (hr.mono (j := 2) (by decide)) (by rfl) gR bR .nil pass0 (pa_cons pe_int (pa_cons pe_int (pa_cons (pe_tup pa_nil) pa_nil)))))) pss_nil)
      (pss_one (ps_ret (pe_call GD hr (by rfl) gD kD bD .nil pass0 (pa_cons (pe_meth (pv 0) TD.cl mA GA (hr.mono (j := 1) (by decide)) bA .nil pass0 (pa_cons (pe_glob (by rfl) mrf rrf) (pa_cons pe_int (pa_cons (pv 1) pa_nil)))) pa_nil)))))), ?_⟩
    obtain ⟨dxd, hd⟩ := h.inst
    refine ⟨_, rfl, d, dxd, _, rfl, hd, rfl, d, st, p, "root", rfl, h, g, ?_⟩
    rcases ri with ⟨e, rfl, rfl, rfl⟩ | ⟨e, gr⟩
    · rw [e]
      refine ⟨_, rfl, rfl, _, rfl, iteT ⟨(by show 0 ≤ sizeLine; decide), fun t nt => ?_⟩⟩
      intro x dx nx ndx nex
      have m0 := same_new (o := .tup []) nt
      refine ⟨x, dx, _, _, _, rfl, upd_same, fun H1 x1 e1 => ⟨rfl, ?_⟩⟩
      have m1 : Same (upd H t (.tup [])) H1 := mk_same nx ndx x1
      exact q H1 _ (m0.trans m1) ⟨x, dx, .ref t, rfl, e1, t, [], rfl, m1 _ _ upd_same, All.nil⟩
    · rw [e]
      refine ⟨_, rfl, rfl, _, rfl, iteF ?_⟩
      refine ⟨_, rfl, d, dxd, _, rfl, hd, rfl, _, rfl, d, st, p, "root", 0, _, _, rfl, h, g, e, fun H1 l1 m1 n1 e1 => ?_⟩
      rw [List.drop_zero, List.take_length] at e1
      exact ⟨l1, up, da, rs, rfl, e1, gr, fun H2 v m2 hv => q H2 v (m1.trans m2) hv⟩
theorem sc_si : FnScope ["self", "disk", "kept", "name", "useless"] ["self", "disk"] (defScope sStoreInit) := ⟨rfl, rfl, rfl, by decide +kernel, rfl, by decide +kernel, by decide +kernel⟩
theorem ok_si {f : Addr} {fd : FuncData} {fD : Addr} {CS CD CC CR C fI : Addr} {fO fT fN fM : Addr} {fdO fdT fdN fdM : FuncData} (F : Fun K "__init__" "Store.__init__" sStoreInit f fd) (NE : Neq CS CD CC CR C) (Y : CtS mg) (T : KC K CS fI SFf) (TD : KC K CD fD CDf) (GO : FnOk P w K mg base CX0 8 fO fdO ["disk"] (spRO CD CC CR C)) (kO : PySem.W.keepIn K (.ref fO) = true) (bO : Binds K fdO ["disk"] []) (gO : mg "root_on" = some (.ref fO)) (GT : FnOk P w K mg base CX0 2 fT fdT ["self", "root"] (spTR CS CR C)) (mT : Meth K CS "_take_root" fT) (bT : Binds K fdT ["self", "root"] []) (GN : FnOk P w K mg base CX0 2 fN fdN ["self"] (spDN CS CD CC CR C)) (mN : Meth K CS "data_name" fN) (bN : Binds K fdN ["self"] []) (GM : FnOk P w K mg base CX0 1 fM fdM ["self"] (spNames CD CC)) (mM : Meth K CD "names" fM) (bM : Binds K fdM ["self"] []) : FnOk P w K mg base CX0 9 f fd ["self", "disk"] (spSI CS CD CC CR C) := by
  refine F.ok sc_si (fun vs H Q E h => ?_) (fun cdv A outer s0 H vs Q E hr h => ?_)
  · obtain ⟨x, dx, d, st, p, up, da, rs, G, rfl, hx, h, nx, gk, N, ri, hb, w, fl, q⟩ := h
    rfl
  · obtain ⟨x, dx, d, st, p, up, da, rs, G, rfl, hx, h, nx, gk, N, ri, hb, w, fl, q⟩ := h
    obtain ⟨dv, mdp, rdp⟩ := Y.dp
    obtain ⟨nv, mnf, rnf⟩ := Y.nf
    refine ⟨_, (pss_cons (ps_fld (pv 0) (pv 1) rfl)
      (pss_cons (ps_expr (pe_meth (pv 0) T.cl mT GT (hr.mono (j := 2) (by decide)) bT .nil pass0 (pa_cons (pe_call GO hr (by rfl) gO kO bO .nil pass0 (pa_cons (pv 1) pa_nil)) pa_nil)))
      (pss_cons (ps_set (i := 2) sc_si.nd rfl (.inr rfl) (pe_meth0 (pv 0) T.cl mN GN (hr.mono (j := 2) (by decide)) bN .nil pass0))
      (Evl.pss_cut (ps_setLc (i := 4) (own := [("name", 3)]) (g := (gName 3)) rfl sc_si.nd rfl rfl (sw_true rfl rfl rfl (by decide +kernel)) (pi_list (pe_meth0 (pv 1) TD.cl mM GM (hr.mono (j := 1) (by decide)) bM .nil pass0)) (blkOk_by (N := ["self", "disk", "kept", "name", "useless"]) (sc := defScope sStoreInit) (by decide +kernel)) (fun _ _ _ _ _ => (pg_name (i := 3) sc_si.nd rfl (Or.inl rfl))) (fun _ _ _ _ _ => (pts_one (PW.pt (pw_or (pt_cmpR op_eq (pv 3) (pe_glob (by rfl) mnf rnf) (nomark _)) (pw_or1 (PW.pt (pw_and (pt_val (pe_m1 PySem.F.slot_str_startswith PySem.F.type_str_startswith mt_startswith (pv 3) (pe_glob (by rfl) mdp rdp))) (pw_and1 (pt_cmpR op_ne (pv 3) (pv 2) (nomark _)))))))))) (fun _ _ _ _ _ => (pv 3)))
      (pss_one (ps_for PassesOwn.never rfl (pi_list (pv 4)) (pg_name (i := 3) sc_si.nd rfl (.inl rfl)) pss_dead)))))), ?_⟩
    have g := N.g
    refine ⟨_, rfl, _, rfl, x, CS, dx, [], rfl, hx, T.cl, T.na _ (by decide +kernel), (by decide), ?_⟩
    obtain ⟨H1, eH1⟩ : ∃ H1, H1 = upd H x (.ins CS dx (sf0 d)) := ⟨_, rfl⟩
    have hx1 : H1 x = some (.ins CS dx (sf0 d)) := by rw [eH1, upd_same]
    have k1 : ∀ a o, H a = some o → a ≠ x → H1 a = some o := fun a o e n => by rw [eH1, upd_ne n]; exact e
    have h1 : DkAt CD CC H1 d st p := h.keep fun a o e f => k1 a o e fun z => by
      rcases f with f | ⟨r, f⟩
      · exact nx (z ▸ f)
      · rw [z, hx, f] at e; cases e
    rw [show putF "disk" (.ref d) [] = sf0 d from rfl, ← eH1]
    have hd1 := h1.inst
    obtain ⟨dxd, hd1⟩ := hd1
    refine ⟨_, rfl, x, dx, _, rfl, hx1, rfl, _, rfl, d, st, p, up, da, rs, rfl, h1, g, ri, fun H2 v m2 hv => ?_⟩
    have h2 := h1.same m2
    have hx2 := m2 _ _ hx1
    have kF : ∀ a, ftS x d p st.cs.length a → ∀ o, H2 a = some o → Knd CR C o := fun a f o e => by
      rcases f with f | rfl
      · exact h2.kinds NE.n1 NE.n2 NE.n3 NE.n4 a f o e
      · rw [hx2] at e
        cases e
        exact ⟨(fun _ z => nomatch z), (fun _ _ z => by injection z with z; exact NE.n5 z), fun _ _ z => by injection z with z; exact NE.n6 z⟩
    have hvF : RtAt (hid (ftS x d p st.cs.length) H2) CR C v up da rs := hv.kind kF
    have hvG : RtAt (hid (fun a => ftS x d p st.cs.length a ∨ G a) H2) CR C v up da rs := hv.kind fun a f o e => by
      rcases f with f | f
      · exact kF a f o e
      · obtain ⟨n1, o', e', k⟩ := gk a f
        rw [m2 _ _ (k1 _ _ e' n1)] at e
        cases e
        exact k
    obtain ⟨ra, dxr, u, rfl, _⟩ := id hv
    refine ⟨fun a => ftS x d p st.cs.length a ∨ G a, x, dx, d, ra, up, da, rs, _, rfl, hx2, .inl rfl, .inl (.inr rfl), fun a f => ?_, hvG, w, fun H3 y k3 hx3 hy => ?_⟩
    · rcases f with (f | rfl) | f
      · exact h2.nf f
      · rw [hx2]
        exact fun z => nomatch z
      · obtain ⟨n1, o', e', k⟩ := gk a f
        rw [m2 _ _ (k1 _ _ e' n1)]
        exact fun z => nomatch z
    have h3 : DkAt CD CC H3 d st p := h2.keep fun a o e f => k3 a o e fun z => by
      rcases f with f | ⟨r, f⟩
      · exact nx (z ▸ f)
      · rw [z, hx2, f] at e; cases e
    have kh : Same (hid (ftS x d p st.cs.length) H2) (hid (ftS x d p st.cs.length) H3) := fun a o e => hid_mk (hid_some e).1 (k3 a o (hid_some e).2 fun z => (hid_some e).1 (.inr z))
    have S3 : StAt CS CD CC CR C H3 x d st p up da rs := ⟨⟨dx, ra, y, hx3, hvF.same kh, hy.same (hid_le fun a f => .inl f)⟩, h3, nx, N, hb, w⟩
    have khG : Same (hid (fun a => ftS x d p st.cs.length a ∨ G a) H2) (hid (fun a => ftS x d p st.cs.length a ∨ G a) H3) := fun a o e => hid_mk (hid_some e).1 (k3 a o (hid_some e).2 fun z => (hid_some e).1 (.inl (.inr z)))
    have kx : ∀ a o, H a = some o → a ≠ x → H3 a = some o := fun a o e n => k3 a o (m2 _ _ (k1 a o e n)) n
    refine ⟨_, rfl, x, dx, _, rfl, hx3, rfl, x, d, st, p, up, da, rs, rfl, S3, ?_⟩
    obtain ⟨dxd3, hd3⟩ := h3.inst
    refine ⟨fun σ H5 => ∃ l, σ = [some (.ref x), some (.ref d), some (.str (dN da)), none, some (.ref l)] ∧ Same H3 H5 ∧ H5 l = some (.lst []), ?_, ?_⟩
    · refine ⟨_, rfl, d, dxd3, _, rfl, hd3, rfl, d, st, p, _, rfl, h3, g.T, fun H4 l4 m4 n4 e4 => ⟨l4, rfl, ⟨_, .inl (.inl e4)⟩, fun D nD => ?_⟩⟩
      refine lc_list (K := K) (xs := (srt (st.tab.map (·.1))).map V.str) (fun i H5 => Same H4 H5 ∧ H5 D = some (.lst [])) ⟨same_new nD, upd_same⟩ ?_ ?_ ?_
      · rintro i H5 hi ⟨m5, _⟩
        exact .inl (.inl (m5 _ _ e4))
      · rintro i x5 H5 hx5 ⟨m5, e5⟩
        rw [List.getElem?_map] at hx5
        obtain ⟨n, hn, rfl⟩ := Option.map_eq_some_iff.mp hx5
        have nm := fl n ((names_mem g n).mp (srt_mem (List.mem_of_getElem? hn)))
        refine ⟨rfl, ?_⟩
        have nne : n ≠ "root.new" := by
          rcases nm with rfl | rfl
          · exact root_new
          · exact (dn_of hb).2.2.2.1
        refine ⟨_, rfl, rfl, _, rfl, iteBF (by rw [str_eq]; exact decide_eq_false nne) ?_⟩
        refine ⟨_, rfl, ⟨_, rfl⟩, _, _, rfl, rfl, _, rfl, ?_⟩
        rcases nm with rfl | rfl
        · refine iteBF root_starts ?_
          refine iteF ?_
          exact ⟨m5, e5⟩
        · have sw : Txt.startswith (dN da) "data." = true := by
            obtain ⟨k, rfl⟩ : ∃ k : Nat, da = (k : Int) := ⟨da.toNat, by omega⟩
            exact dn_starts k (by omega)
          refine iteB sw ?_
          refine ⟨_, rfl, _, rfl, rfl, _, rfl, ?_⟩
          refine iteBF (by rw [decide_eq_true rfl]; rfl) ?_
          exact ⟨m5, e5⟩
      · rintro H5 ⟨m5, e5⟩
        exact ⟨D, rfl, m4.trans m5, e5⟩
    rintro σ H5 ⟨l, rfl, m5, e5⟩
    refine ⟨_, rfl, l, rfl, ⟨_, .inl (.inl e5)⟩, for_it (tb := fun _ _ _ => False) (walk_list (xs := ([] : List V))) (fun i σ2 H6 => H6 = H5) rfl ?_ ?_ ?_⟩
    · rintro i σ2 H6 hi rfl
      exact .inl (.inl e5)
    · rintro i y2 σ2 H6 H7 hi
      exact absurd hi (Nat.not_lt_zero _)
    · rintro σ2 H6 rfl
      exact q _ (fun a o e n => m5 _ _ (kx a o e n)) (S3.same m5) ⟨dx, ra, y, m5 _ _ hx3, (hvG.same khG).same (hid_of_same m5), hy.same (hid_of_same m5)⟩
end
end K2

namespace K2
open PySem L2
/-! ### steps of a store beside lists of ours -/
def fS (s d : Addr) (p : DP) (n : Nat) (ls : List Addr) (a : Addr) : Prop := ftS s d p n a ∨ a ∈ ls
structure XSt (ls : List Addr) (H H' : Hp) (s d : Addr) (st st' : DS) (p p' : DP) : Prop where
  o : Out (fS s d p st.cs.length ls) H H'
  w : Gw (fS s d p st.cs.length ls) (fS s d p' st'.cs.length ls) H
section
variable {ls : List Addr} {H H' H2 : Hp} {s d : Addr} {st st' st2 : DS} {p p' p2 : DP}
theorem XSt.refl : XSt ls H H s d st st p p := ⟨Out.refl, Gw.refl⟩
theorem XSt.trans (h : XSt ls H H' s d st st' p p') (g : XSt ls H' H2 s d st' st2 p' p2) : XSt ls H H2 s d st st2 p p2 := ⟨h.o.trans h.w g.o, h.w.trans h.o g.w⟩
theorem SSt.x (h : SSt H H' s d st st' p p') : XSt ls H H' s d st st' p p' := by
  refine ⟨fun c o e n => h.o c o e fun f => n (.inl f), fun c f => ?_⟩
  rcases f with f | f
  · rcases h.w c f with z | z
    · exact .inl (.inl z)
    · exact .inr z
  · exact .inl (.inr f)
theorem XSt.same (m : Same H H') : XSt ls H H' s d st st p p := ⟨fun c o e _ => m c o e, Gw.refl⟩
theorem XSt.seq (h : XSt ls H H' s d st st' p p') (m : Same H' H2) : XSt ls H H2 s d st st' p p' := h.trans (XSt.same m)
theorem XSt.put {L : Addr} {o : HO} (hL : L ∈ ls) : XSt ls H (upd H L o) s d st st p p := by
  refine ⟨fun c x e n => ?_, Gw.refl⟩
  rw [upd_ne (show c ≠ L from fun z => n (.inr (z ▸ hL)))]
  exact e
theorem XSt.hid (h : XSt ls H H' s d st st' p p') : Same (hid (fS s d p st.cs.length ls) H) (hid (fS s d p' st'.cs.length ls) H') := hid_stp h.o h.w
/-- a list that was new is ours no more -/
theorem XSt.drop {R : Addr} {H3 H4 : Hp} {st3 st4 : DS} {p3 p4 : DP} (h : XSt ls H H3 s d st st3 p p3) (g : XSt (R :: ls) H3 H4 s d st3 st4 p3 p4) (n : H R = none) : XSt ls H H4 s d st st4 p p4 := by
  refine ⟨fun c o e nf => ?_, fun c f => ?_⟩
  · refine g.o c o (h.o c o e nf) fun z => ?_
    have nR : c ≠ R := fun y => by rw [y, n] at e; cases e
    have z' : fS s d p3 st3.cs.length ls c := by
      rcases z with z | z
      · exact .inl z
      · rcases List.mem_cons.mp z with z | z
        · exact absurd z nR
        · exact .inr z
    rcases h.w c z' with y | y
    · exact nf y
    · rw [y] at e; cases e
  · have f' : fS s d p4 st4.cs.length (R :: ls) c := by
      rcases f with f | f
      · exact .inl f
      · exact .inr (List.mem_cons_of_mem _ f)
    rcases g.w c f' with y | y
    · rcases y with y | y
      · exact h.w c (.inl y)
      · rcases List.mem_cons.mp y with y | y
        · exact .inr (by rw [y]; exact n)
        · exact h.w c (.inr y)
    · cases e : H c with
      | none => exact .inr rfl
      | some o =>
        refine .inl ?_
        apply Classical.byContradiction
        intro nf
        rw [h.o c o e nf] at y
        cases y
/-- they were all new -/
theorem XSt.toS {H0 : Hp} (m : Same H0 H) (n : ∀ L ∈ ls, H0 L = none) (occ : ∀ a, ftS s d p st.cs.length a → H0 a ≠ none) (h : XSt ls H H' s d st st' p p') : SSt H0 H' s d st st' p p' := by
  refine ⟨fun c o e nf => h.o c o (m c o e) fun z => ?_, fun c f => ?_⟩
  · rcases z with z | z
    · exact nf z
    · rw [n c z] at e; cases e
  · rcases h.w c (.inl f) with z | z
    · rcases z with z | z
      · exact .inl z
      · exact .inr (n c z)
    · exact .inr (m.free z)
theorem XSt.out (h : XSt ls H H' s d st st' p p') {c : Addr} {o : HO} (e : H c = some o) (n1 : ¬ ftS s d p st.cs.length c) (n2 : c ∉ ls) : H' c = some o ∧ ¬ ftS s d p' st'.cs.length c := by
  refine ⟨h.o c o e fun z => ?_, fun z => ?_⟩
  · rcases z with z | z
    · exact n1 z
    · exact n2 z
  · rcases h.w c (.inl z) with y | y
    · rcases y with y | y
      · exact n1 y
      · exact n2 y
    · rw [y] at e; cases e
end
/-- while a version is put -/
structure PIn (CS CD CC CR C : Addr) (H : Hp) (s d : Addr) (st0 : DS) (D : List Int) (st : DS) (p : DP) (up da : Int) (rs : List Ve) (X : List Int) (b : Bool) : Prop where
  k : StAt CS CD CC CR C H s d st p up da rs
  r : (st.rd (dN da)).getD [] = D ++ X
  o : ∀ m, m ≠ dN da → st.rd m = st0.rd m
  f : ∀ m, m ≠ dN da → st.ful m
  b0 : b = false → X = [] ∧ st.rd (dN da) = st0.rd (dN da) ∧ st.ful (dN da)
  b1 : b = true → st.rd (dN da) ≠ none ∧ X ≠ []
  c : st.chg.length ≤ X.length
theorem PIn.same {CS CD CC CR C : Addr} {H H' : Hp} {s d : Addr} {st0 st : DS} {D X : List Int} {p : DP} {up da : Int} {rs : List Ve} {b : Bool} (h : PIn CS CD CC CR C H s d st0 D st p up da rs X b) (m : Same H H') : PIn CS CD CC CR C H' s d st0 D st p up da rs X b :=
  ⟨h.k.same m, h.r, h.o, h.f, h.b0, h.b1, h.c⟩
theorem PIn.app {CS CD CC CR C : Addr} {H H' : Hp} {s d : Addr} {st0 st st' : DS} {D X os : List Int} {p p' : DP} {up da : Int} {rs : List Ve} {b : Bool} (h : PIn CS CD CC CR C H s d st0 D st p up da rs X b) (k : StAt CS CD CC CR C H' s d st' p' up da rs) (a : App st st' (dN da) os) (ho : os ≠ []) : PIn CS CD CC CR C H' s d st0 D st' p' up da rs (X ++ os) true := by
  have e : st'.rd (dN da) = some (D ++ X ++ os) := by rw [a.rd, if_pos rfl, h.r]
  refine ⟨k, (by rw [e, ← List.append_assoc]; rfl), (fun m n => by rw [a.rd, if_neg n]; exact h.o m n), fun m n => a.ful m n (h.f m n), (fun z => by cases z), (fun _ => ⟨by rw [e]; exact fun z => (nomatch z), fun z => ho (List.append_eq_nil_iff.mp z).2⟩), ?_⟩
  have := a.chg
  have := h.c
  have := List.length_pos_iff.mpr ho
  rw [List.length_append]
  omega
theorem hid_kt {F : Addr → Prop} {H : Hp} {L : Addr} {xs ys : List V} (e : H L = some (.lst xs)) : Kt (hid F H) (hid F (upd H L (.lst ys))) := fun a o ea n => hid_mk (hid_some ea).1 (kt_upd e a o (hid_some ea).2 n)
theorem RtAt.kt {H H1 : Hp} {CR C : Addr} {x : V} {up da : Int} {vs : List Ve} (h : RtAt H CR C x up da vs) (k : Kt H H1) : RtAt H1 CR C x up da vs := let ⟨a, dx, u, e1, e2, e3⟩ := h; ⟨a, dx, u, e1, k _ _ e2 (fun _ z => nomatch z), e3.kt k fun _ _ z => z.kt k⟩
theorem VsD.kt {H H1 : Hp} {C : Addr} {y : V} {rs : List Ve} (h : VsD H C y rs) (k : Kt H H1) : VsD H1 C y rs := by
  obtain ⟨a, xs, e1, e2, e3⟩ := h
  refine ⟨a, xs, e1, k _ _ e2 (fun _ z => nomatch z), e3.imp fun x r h => ?_⟩
  obtain ⟨a, xs, e1, e2, e3⟩ := h
  refine ⟨a, xs, e1, k _ _ e2 (fun _ z => nomatch z), e3.imp fun x r h => ?_⟩
  obtain ⟨a, u, v, e1, e2, e3, b, xs, e4, e5, e6⟩ := h
  exact ⟨a, u, v, e1, k _ _ e2 (fun _ z => nomatch z), e3.kt k, b, xs, e4, k _ _ e5 (fun _ z => nomatch z), e6.imp fun x c h => RowAt.kt h k⟩
theorem StAt.putL {CS CD CC CR C : Addr} {H : Hp} {s d L : Addr} {st : DS} {p : DP} {up da : Int} {rs : List Ve} {xs ys : List V} (h : StAt CS CD CC CR C H s d st p up da rs) (e : H L = some (.lst xs)) (n : ¬ ftS s d p st.cs.length L) : StAt CS CD CC CR C (upd H L (.lst ys)) s d st p up da rs := by
  obtain ⟨dx, ra, y, hi, hr, hv⟩ := h.i
  refine ⟨⟨dx, ra, y, ?_, hr.kt (hid_kt e), hv.kt (hid_kt e)⟩, h.k.keep fun a o ea f => ?_, h.n, h.g, h.b, h.w⟩
  · rw [upd_ne (fun z => n (.inr z.symm))]
    exact hi
  · rw [upd_ne (fun z => ?_)]
    · exact ea
    rcases f with f | ⟨r, f⟩
    · exact n (.inl (z ▸ f))
    · rw [z, e, f] at ea
      cases ea
theorem PIn.putL {CS CD CC CR C : Addr} {H : Hp} {s d L : Addr} {st0 st : DS} {D X : List Int} {p : DP} {up da : Int} {rs : List Ve} {b : Bool} {xs ys : List V} (h : PIn CS CD CC CR C H s d st0 D st p up da rs X b) (e : H L = some (.lst xs)) (n : ¬ ftS s d p st.cs.length L) : PIn CS CD CC CR C (upd H L (.lst ys)) s d st0 D st p up da rs X b :=
  ⟨h.k.putL e n, h.r, h.o, h.f, h.b0, h.b1, h.c⟩
def costC (D : List Int) (rs : List Ve) (n : Str) (c : List Int × List Int) : Nat := if again D rs n c.1 c.2 = none then 4 + c.2.length else 0
def costA (D : List Int) (rs : List Ve) (m : Am) : Nat := (m.cs.map (costC D rs m.n)).sum
def cost (D : List Int) (rs : List Ve) (ms : List Am) : Nat := (ms.map (costA D rs)).sum
theorem look_ok {D : List Int} {rs : List Ve} (h : OkV D rs) {n : Str} {pl : List Int} {c : Ck} (e : lookC rs n pl = some c) : Okc D c ∧ c.c = pl := by
  unfold lookC lastAs at e
  cases el : rs.getLast? with
  | none => rw [el] at e; cases e
  | some v =>
    rw [el] at e
    have e : (v.as.find? fun r => decide (r.n = n)).bind (fun r => r.cs.find? fun c => decide (c.c = pl)) = some c := e
    cases ea : v.as.find? fun r => decide (r.n = n) with
    | none => rw [ea] at e; cases e
    | some r =>
      rw [ea] at e
      have e : r.cs.find? (fun c => decide (c.c = pl)) = some c := e
      exact ⟨h v (List.mem_of_getLast? el) r (List.mem_of_find?_eq_some ea) c (List.mem_of_find?_eq_some e), of_decide_eq_true (List.find?_some (p := fun c : Ck => decide (c.c = pl)) e)⟩
theorem again_app {D X : List Int} {rs : List Ve} (h : OkV D rs) (n : Str) (pl os : List Int) : again (D ++ X) rs n pl os = again D rs n pl os := by
  unfold again
  cases e : lookC rs n pl with
  | none => rfl
  | some c =>
    show (if recO (D ++ X) c = os then some c else none) = if recO D c = os then some c else none
    rw [recO_app (look_ok h e).1]
theorem again_is {D : List Int} {rs : List Ve} (h : OkV D rs) {n : Str} {pl os : List Int} {c : Ck} (e : again D rs n pl os = some c) : Okc D c ∧ c.c = pl ∧ recO D c = os := by
  unfold again at e
  cases el : lookC rs n pl with
  | none => rw [el] at e; cases e
  | some c' =>
    rw [el] at e
    have e : (if recO D c' = os then some c' else none) = some c := e
    split at e
    · rename_i h3
      cases e
      exact ⟨(look_ok h el).1, (look_ok h el).2, h3⟩
    · cases e
theorem OkV.app {D X : List Int} {rs : List Ve} (h : OkV D rs) : OkV (D ++ X) rs := fun v hv r hr c hc => (h v hv r hr c hc).app
theorem sum_take (l : List Nat) (i : Nat) : (l.take i).sum ≤ l.sum := by
  conv => rhs; rw [← List.take_append_drop i l]
  rw [List.sum_append]
  omega
theorem sum_succ {l : List Nat} {i : Nat} (h : i < l.length) : (l.take (i + 1)).sum = (l.take i).sum + l[i] := by
  rw [List.take_add_one, List.getElem?_eq_getElem h, List.sum_append]
  rfl
end K2

namespace K2
open PySem L2
def spWR (CS CD CC CR C : Addr) : Sp := fun vs H Q _ => ∃ (s d ra : Addr) (st : DS) (p : DP) (up da : Int) (rs : List Ve) (up' da' : Int) (rs' : List Ve) (G : Addr → Prop), vs = [.ref s, .ref ra] ∧ StAt CS CD CC CR C H s d st p up da rs ∧ GOk CR C H s d p st.cs.length G ∧ RtAt (hid (ftS s d p st.cs.length) H) CR C (.ref ra) up' da' rs' ∧ GV rs' ∧ (eRt up' da' rs').length ≤ 800000 ∧ st.rd "root.new" = none ∧ st.chg.length < 700 ∧ (∀ m, st.ful m) ∧ (0 ≤ da' ∧ da' < 60) ∧ WfR rs' ∧
  ∀ H' p' st', SSt H H' s d st st' p p' → StAt CS CD CC CR C H' s d st' p' up' da' rs' → StG CS CR C H' s d p' st'.cs.length G up' da' rs' → Quiet st' → st'.rd "root" = some (eRt up' da' rs' ++ w4 (sumO (eRt up' da' rs'))) → (∀ m : Str, m ≠ "root" → st'.rd m = st.rd m) → Q .non H'
theorem nm_root : ("root" : Str) ∈ NM := List.mem_cons_self
theorem nm_new : ("root.new" : Str) ∈ NM := List.mem_cons_of_mem _ List.mem_cons_self
section
variable {P : Program} {w : World} {K : PySem.W.Frag} {mg : Str → Option Value} {base : Heap}
theorem sc_wrt : FnScope ["self", "root"] ["self", "root"] (defScope sStoreWriteRoot) := ⟨rfl, rfl, rfl, by decide +kernel, rfl, by decide +kernel, by decide +kernel⟩
theorem ok_wrt {f : Addr} {fd : FuncData} {fD : Addr} {CS CD CC CR C fI : Addr} {fE fP fS fN fM fT : Addr} {fdE fdP fdS fdN fdM fdT : FuncData} (F : Fun K "write_root" "Store.write_root" sStoreWriteRoot f fd) (Y : CtS mg) (T : KC K CS fI SFf) (TD : KC K CD fD CDf) (GE : FnOk P w K mg base CX0 4 fE fdE ["root"] (spER CR C)) (kE : PySem.W.keepIn K (.ref fE) = true) (bE : Binds K fdE ["root"] []) (gE : mg "encode_root" = some (.ref fE)) (GP : FnOk P w K mg base CX0 4 fP fdP ["self", "name", "octets"] (spAp CD CC)) (mP : Meth K CD "append" fP) (bP : Binds K fdP ["self", "name", "octets"] []) (GS : FnOk P w K mg base CX0 4 fS fdS ["self", "name"] (spSy CD CC)) (mS : Meth K CD "sync" fS) (bS : Binds K fdS ["self", "name"] []) (GN : FnOk P w K mg base CX0 4 fN fdN ["self", "old", "new"] (spRn CD CC)) (mN : Meth K CD "rename" fN) (bN : Binds K fdN ["self", "old", "new"] []) (GM : FnOk P w K mg base CX0 4 fM fdM ["self"] (spSn CD CC)) (mM : Meth K CD "sync_names" fM) (bM : Binds K fdM ["self"] []) (GT : FnOk P w K mg base CX0 2 fT fdT ["self", "root"] (spTR CS CR C)) (mT : Meth K CS "_take_root" fT) (bT : Binds K fdT ["self", "root"] []) : FnOk P w K mg base CX0 5 f fd ["self", "root"] (spWR CS CD CC CR C) := by
  refine F.ok sc_wrt (fun vs H Q E h => ?_) (fun cdv A outer s0 H vs Q E hr h => ?_)
  · obtain ⟨s, d, ra, st, p, up, da, rs, up', da', rs', G, rfl, h, gk, hrt, gv, len, hn, hc, fl, hb, w, q⟩ := h
    rfl
  · obtain ⟨s, d, ra, st, p, up, da, rs, up', da', rs', G, rfl, h, gk, hrt, gv, len, hn, hc, fl, hb, w, q⟩ := h
    obtain ⟨rv, mrf, rrf⟩ := Y.rf
    obtain ⟨nv, mnf, rnf⟩ := Y.nf
    refine ⟨_, (pss_cons (ps_expr (pe_meth (pe_fld (pv 0) rfl) TD.cl mP GP (hr.mono (j := 4) (by decide)) bP .nil pass0 (pa_cons (pe_glob (by rfl) mnf rnf) (pa_cons (pe_call GE (hr.mono (j := 4) (by decide)) (by rfl) gE kE bE .nil pass0 (pa_cons (pv 1) pa_nil)) pa_nil))))
      (pss_cons (ps_expr (pe_meth (pe_fld (pv 0) rfl) TD.cl mS GS (hr.mono (j := 4) (by decide)) bS .nil pass0 (pa_cons (pe_glob (by rfl) mnf rnf) pa_nil)))
      (pss_cons (ps_expr (pe_meth (pe_fld (pv 0) rfl) TD.cl mN GN (hr.mono (j := 4) (by decide)) bN .nil pass0 (pa_cons (pe_glob (by rfl) mnf rnf) (pa_cons (pe_glob (by rfl) mrf rrf) pa_nil))))
      (pss_cons (ps_expr (pe_meth0 (pe_fld (pv 0) rfl) TD.cl mM GM (hr.mono (j := 4) (by decide)) bM .nil pass0))
      (pss_one (ps_expr (pe_meth (pv 0) T.cl mT GT (hr.mono (j := 2) (by decide)) bT .nil pass0 (pa_cons (pv 1) pa_nil)))))))), ?_⟩
    obtain ⟨dx, ra0, y, hi, _⟩ := h.i
    have occ := h.occ
    obtain ⟨dxd, hd⟩ := h.k.inst
    refine ⟨_, rfl, s, CS, dx, _, .ref d, rfl, hi, T.cl, T.na _ (by decide +kernel), rfl, d, dxd, _, rfl, hd, rfl, _, rfl, .ref ra, up', da', rs', rfl, hrt.same (hid_same _ _), gv, by omega, fun H1 l1 m1 n1 e1 => ?_⟩
    have h1 := h.same m1
    have en : ((st.rd "root.new").getD []).length = 0 := by rw [hn]; rfl
    have l4 : (w4 (sumO (eRt up' da' rs'))).length = 4 := rfl
    refine ⟨d, l1, st, p, "root.new", _, rfl, h1.k, h.g, e1, h.k.nfree n1, nm_new, (by rw [en, List.length_append, l4]; omega), by omega, fun H2 p2 st2 stp2 a2 => ?_⟩
    have h2 := h1.stp stp2 a2.nice
    have s2 : SSt H H2 s d st st2 p p2 := (SSt.same m1).trans stp2.sst
    have r2 : st2.rd "root.new" = some (eRt up' da' rs' ++ w4 (sumO (eRt up' da' rs'))) := by rw [a2.rd, if_pos rfl, hn]; rfl
    obtain ⟨dx2, ra2, y2, hi2, _⟩ := h2.i
    obtain ⟨dxd2, hd2⟩ := h2.k.inst
    refine ⟨_, rfl, s, CS, dx2, _, .ref d, rfl, hi2, T.cl, T.na _ (by decide +kernel), rfl, d, dxd2, _, rfl, hd2, rfl, d, st2, p2, "root.new", rfl, h2.k, h2.g, (by rw [r2]; exact fun z => nomatch z), fun H3 p3 st3 stp3 a3 => ?_⟩
    have h3 := h2.stp stp3 a3.nice
    have s3 := s2.trans stp3.sst
    have f3 : ∀ m, st3.ful m := fun m => a3.ful m (by
      by_cases z : m = "root.new"
      · exact .inl z
      · exact .inr (a2.ful m z (fl m)))
    obtain ⟨dx3, ra3, y3, hi3, _⟩ := h3.i
    obtain ⟨dxd3, hd3⟩ := h3.k.inst
    have c3 : st3.chg.length ≤ 701 := by
      rw [a3.chg]
      have := a2.chg
      omega
    refine ⟨_, rfl, s, CS, dx3, _, .ref d, rfl, hi3, T.cl, T.na _ (by decide +kernel), rfl, d, dxd3, _, rfl, hd3, rfl, d, st3, p3, "root.new", "root", rfl, h3.k, h3.g, root_new.symm, (by rw [a3.rd, r2]; exact fun z => nomatch z), nm_root, by omega, fun H4 p4 st4 stp4 a4 => ?_⟩
    have h4 := h3.stp stp4 a4.nice
    have s4 := s3.trans stp4.sst
    have f4 : ∀ m, st4.ful m := fun m => by
      by_cases z : m = "root"
      · rw [z]; exact a4.ful.1 (f3 _)
      · exact a4.ful.2 m z (f3 m)
    obtain ⟨dx4, ra4, y4, hi4, _⟩ := h4.i
    obtain ⟨dxd4, hd4⟩ := h4.k.inst
    refine ⟨_, rfl, s, CS, dx4, _, .ref d, rfl, hi4, T.cl, T.na _ (by decide +kernel), rfl, d, dxd4, _, rfl, hd4, rfl, d, st4, p4, rfl, h4.k, h4.g, fun H5 p5 stp5 => ?_⟩
    have qu := quiet_syn h4.g f4
    have h5 := h4.stp stp5 qu.n
    have s5 := s4.trans stp5.sst
    obtain ⟨dx5, ra5, y5, hi5, _⟩ := h5.i
    have rt5 := hrt.same s5.hid
    have g5 := gk.sst s5
    have rtG := rt5.hG g5
    refine ⟨_, rfl, s, dx5, _, rfl, hi5, rfl, _, rfl, fun a => ftS s d p5 st4.tick.syn.cs.length a ∨ G a, s, dx5, d, ra, up', da', rs', _, rfl, hi5, .inr ⟨ra5, y5, rfl⟩, .inl (.inr rfl), fun a f => f.elim (h5.occ a) fun f => (by obtain ⟨_, o, e, _⟩ := g5 a f; rw [e]; exact fun z => nomatch z), rtG, w, fun H6 y6 k6 hi6 hv => ?_⟩
    have kf : ∀ {a}, ftS s d p5 st4.tick.syn.cs.length a → a ≠ s → foot d p5 st4.tick.syn.cs.length a := fun f n => by
      rcases f with f | f
      · exact f
      · exact absurd f n
    have h6 : DkAt CD CC H6 d st4.tick.syn p5 := h5.k.keep fun a o e f => k6 a o e fun z => by
      rcases f with f | ⟨r, f⟩
      · exact h5.n (z ▸ f)
      · rw [z, hi5, f] at e; cases e
    have kh : Same (hid (ftS s d p5 st4.tick.syn.cs.length) H5) (hid (ftS s d p5 st4.tick.syn.cs.length) H6) := fun a o e => hid_mk (hid_some e).1 (k6 a o (hid_some e).2 fun z => (hid_some e).1 (.inr z))
    have khG : Same (hid (fun a => ftS s d p5 st4.tick.syn.cs.length a ∨ G a) H5) (hid (fun a => ftS s d p5 st4.tick.syn.cs.length a ∨ G a) H6) := fun a o e => hid_mk (hid_some e).1 (k6 a o (hid_some e).2 fun z => (hid_some e).1 (.inl (.inr z)))
    have s6 : SSt H5 H6 s d st4.tick.syn st4.tick.syn p5 p5 := ⟨fun a o e n => k6 a o e fun z => n (.inr z), Gw.refl⟩
    refine q H6 p5 _ (s5.trans s6) ⟨⟨dx5, ra, y6, hi6, rt5.same kh, hv.same (hid_le fun a f => .inl f)⟩, h6, h5.n, qu.n, hb, w⟩ ⟨dx5, ra, y6, hi6, rtG.same khG, hv⟩ qu ?_ fun m hm => ?_
    · show st4.rd "root" = _
      rw [a4.rd, if_pos rfl, a3.rd, r2]
    · show st4.rd m = _
      rw [a4.rd, if_neg hm]
      by_cases z : m = "root.new"
      · rw [if_pos z, z, hn]
      · rw [if_neg z, a3.rd, a2.rd, if_neg z]
end
end K2

namespace K2
open PySem L2
theorem XSt.more {R L : Addr} {H H' : Hp} {s d : Addr} {st st' : DS} {p p' : DP} (h : XSt [R] H H' s d st st' p p') : XSt [R, L] H H' s d st st' p p' := by
  refine ⟨fun c o e n => h.o c o e fun z => n ?_, fun c f => ?_⟩
  · rcases z with z | z
    · exact .inl z
    · exact .inr (by rw [List.mem_singleton.mp z]; exact List.mem_cons_self)
  · rcases f with f | f
    · rcases h.w c (.inl f) with z | z
      · rcases z with z | z
        · exact .inl (.inl z)
        · exact .inl (.inr (by rw [List.mem_singleton.mp z]; exact List.mem_cons_self))
      · exact .inr z
    · exact .inl (.inr f)
theorem hid_ext {s d : Addr} {p : DP} {n : Nat} {ls : List Addr} {H H' : Hp} (m : Same H H') (k : ∀ l ∈ ls, H l = none) : Same (hid (ftS s d p n) H) (hid (fS s d p n ls) H') := fun a o e => by
  obtain ⟨f, e⟩ := hid_some e
  refine hid_mk (fun z => ?_) (m _ _ e)
  rcases z with z | z
  · exact f z
  · rw [k a z] at e; cases e
theorem hid_sw {s d : Addr} {p : DP} {n : Nat} {ls ls' : List Addr} {H H' : Hp} (m : Same H H') (k : ∀ l ∈ ls', H l = none) : Same (hid (fS s d p n ls) H) (hid (fS s d p n ls') H') := (show Same (hid (fS s d p n ls) H) (hid (ftS s d p n) H) from hid_le fun _ z => .inl z).trans (hid_ext m k)
theorem cat_tup {K : PySem.W.Frag} {H : Hp} {a b : Addr} {xs ys : List V} {Q : VK} (ha : H a = some (.tup xs)) (hb : H b = some (.tup ys)) (len : xs.length + ys.length ≤ sizeLine) (q : ∀ p H', Same H H' → H' p = some (.tup (xs ++ ys)) → Q (.ref p) H') : rCatA K (.ref a) (.ref b) H Q := by
  refine ⟨a, b, xs, ys, rfl, rfl, SqT.of ha, SqT.of hb, len, fun e => ?_, fun _ e => ?_, fun _ _ p np => q p _ (same_new np) upd_same⟩
  · subst e
    exact q b H (Same.refl H) hb
  · subst e
    exact q a H (Same.refl H) (by rw [List.append_nil]; exact ha)
theorem StAt.tup {CS CD CC CR C : Addr} {H : Hp} {s d : Addr} {st : DS} {p : DP} {up da : Int} {rs : List Ve} (h : StAt CS CD CC CR C H s d st p up da rs) {a : Addr} {r : List V} (e : H a = some (.tup r)) : ¬ ftS s d p st.cs.length a := fun f => by
  rcases f with f | rfl
  · exact h.k.ntup e f
  · obtain ⟨dx, ra, y, hi, _⟩ := h.i
    rw [hi] at e; cases e
theorem vw_app {D X E : List Int} {as : List Ar} (h : ∀ r ∈ as, ∀ c ∈ r.cs, Okc (D ++ X) c) : as.map (vw (D ++ (X ++ E))) = as.map (vw (D ++ X)) := by
  refine List.map_congr_left fun r hr => ?_
  unfold vw
  congr 1
  refine List.map_congr_left fun c hc => ?_
  rw [← List.append_assoc, recO_app (h r hr c hc)]
structure WfM (ms : List Am) : Prop where
  nm : (ms.map Am.n).Nodup ∧ PyProof.Rows.sortedS (ms.map Am.n) = true
  ln : ms.length < 64
  ck : ∀ m ∈ ms, AscL (m.cs.map (·.1)) ∧ (∀ c ∈ m.cs, c.1 ≠ []) ∧ m.cs.length ≤ 1000
theorem WfM.nd {ms : List Am} (w : WfM ms) : (ms.map fun r => (Sum.inr r.n : Key)).Nodup := by
  have e : (ms.map fun r => (Sum.inr r.n : Key)) = (ms.map Am.n).map Sum.inr := by rw [List.map_map]; rfl
  rw [e]
  exact w.nm.1.map _ fun a b n z => n (Sum.inr.inj z)
theorem asc_ndm {cs : List (List Int × List Int)} (h : AscL (cs.map (·.1))) : (cs.map fun c => kI c.1).Nodup := by
  have h2 : (cs.map (·.1)).Nodup := h.imp fun {a b} z y => by
    subst y
    rw [lexL_lt] at z
    exact List.lt_irrefl _ (of_decide_eq_true z)
  have e : (cs.map fun c => kI c.1) = (cs.map (·.1)).map kI := by rw [List.map_map]; rfl
  rw [e]
  exact h2.map _ fun a b n z => n (kI_inj z)
def spPut (CS CD CC CR C : Addr) : Sp := fun vs H Q _ => ∃ (s d : Addr) (y : V) (st : DS) (p : DP) (up da : Int) (rs : List Ve) (ms : List Am) (D : List Int) (G : Addr → Prop), vs = [.ref s, y] ∧ StAt CS CD CC CR C H s d st p up da rs ∧ GOk CR C H s d p st.cs.length G ∧ Quiet st ∧ AmsD (hid (ftS s d p st.cs.length) H) C y ms ∧ (st.rd (dN da)).getD [] = D ∧ OkV D rs ∧ st.rd "root.new" = none ∧ WfM ms ∧ D.length + cost D rs ms ≤ 800000 ∧ cost D rs ms ≤ 600 ∧
  (∀ as X, as.map (vw (D ++ X)) = ms → X.length = cost D rs ms → (∀ r ∈ as, ∀ c ∈ r.cs, Okc (D ++ X) c) → GV (rs ++ [⟨up, as⟩]) ∧ (eRt (up + 1) da (rs ++ [⟨up, as⟩])).length ≤ 800000 ∧ WfR (rs ++ [⟨up, as⟩])) ∧
  ∀ H' p' st' as X, SSt H H' s d st st' p p' → StAt CS CD CC CR C H' s d st' p' (up + 1) da (rs ++ [⟨up, as⟩]) → StG CS CR C H' s d p' st'.cs.length G (up + 1) da (rs ++ [⟨up, as⟩]) → Quiet st' → st'.rd "root" = some (eRt (up + 1) da (rs ++ [⟨up, as⟩]) ++ w4 (sumO (eRt (up + 1) da (rs ++ [⟨up, as⟩])))) → (∀ m : Str, m ≠ "root" → m ≠ dN da → st'.rd m = st.rd m) →
    (st'.rd (dN da)).getD [] = D ++ X → (X = [] → st'.rd (dN da) = st.rd (dN da)) → (X ≠ [] → st'.rd (dN da) ≠ none) → as.map (vw (D ++ X)) = ms → (∀ r ∈ as, ∀ c ∈ r.cs, Okc (D ++ X) c) → X.length = cost D rs ms → Q (.int up) H'
section
variable {P : Program} {w : World} {K : PySem.W.Frag} {mg : Str → Option Value} {base : Heap}
theorem sc_put : FnScope ["self", "arrays", "fresh", "told", "name", "shape", "chunks", "rows", "chunk", "record", "root"] ["self", "arrays"] (defScope sStorePut) := ⟨rfl, rfl, rfl, by decide +kernel, rfl, by decide +kernel, by decide +kernel⟩
theorem ok_put {f : Addr} {fd : FuncData} {fD fR : Addr} {fdR : FuncData} {CS CD CC CR C fI : Addr} {fG fA fY fN fO fW : Addr} {fdG fdA fdY fdN fdO fdW : FuncData} (F : Fun K "put" "Store.put" sStorePut f fd) (M : Nm mg) (T : KC K CS fI SFf) (TD : KC K CD fD CDf) (R : KC K CR fR RHf) (GR : FnOk P w K mg base CX0 1 fR fdR ["self", "upcoming", "data", "versions"] (RIn CR C)) (bR : Binds K fdR ["self", "upcoming", "data", "versions"] []) (gR : mg "Root" = some (.ref CR)) (GG : FnOk P w K mg base CX0 5 fG fdG ["self", "name", "chunk", "octets"] (spRAg CS CD CC CR C)) (mG : Meth K CS "_record_again" fG) (bG : Binds K fdG ["self", "name", "chunk", "octets"] []) (GA : FnOk P w K mg base CX0 5 fA fdA ["self", "octets"] (spAR CS CD CC CR C)) (mA : Meth K CS "_append_record" fA) (bA : Binds K fdA ["self", "octets"] []) (GY : FnOk P w K mg base CX0 4 fY fdY ["self", "name"] (spSy CD CC)) (mY : Meth K CD "sync" fY) (bY : Binds K fdY ["self", "name"] []) (GN : FnOk P w K mg base CX0 2 fN fdN ["self"] (spDN CS CD CC CR C)) (mN : Meth K CS "data_name" fN) (bN : Binds K fdN ["self"] []) (GO : FnOk P w K mg base CX0 1 fO fdO ["self"] (spRoot CS CD CC CR C)) (mO : Meth K CS "root" fO) (bO : Binds K fdO ["self"] []) (GW : FnOk P w K mg base CX0 5 fW fdW ["self", "root"] (spWR CS CD CC CR C)) (mW : Meth K CS "write_root" fW) (bW : Binds K fdW ["self", "root"] []) : FnOk P w K mg base CX0 6 f fd ["self", "arrays"] (spPut CS CD CC CR C) := by
  refine F.ok sc_put (fun vs H Q E h => ?_) (fun cdv A outer s0 H vs Q E hr h => ?_)
  · obtain ⟨s, d, y, st, p, up, da, rs, ms, D, G, rfl, h, gk, qu, hy, hD, okv, hn, wm, hcost, hc6, gd, q⟩ := h
    rfl
  · obtain ⟨s, d, y, st, p, up, da, rs, ms, D, G, rfl, h, gk, qu, hy, hD, okv, hn, wm, hcost, hc6, gd, q⟩ := h
    have hu := hu_of hr
    refine ⟨_, (pss_cons (ps_set (i := 2) sc_put.nd rfl (.inl rfl) pe_bl)
      (pss_cons (ps_set (i := 3) sc_put.nd rfl (.inl rfl) (pe_lst pa_nil))
      (Evl.pss_cut (ps_for PassesOwn.never rfl (pi_list (pe_callB (call_sortedD rfl) (by rfl) M.sorted (by decide +kernel) (pa_cons (pv 1) pa_nil))) (pg_name (i := 4) sc_put.nd rfl (.inl rfl)) (pss_cons (ps_asg (pe_dget hu (pv 1) (pv 4) (fun _ _ => rfl)) (pg_tup (by rfl) (pgs_cons (pg_name (i := 5) sc_put.nd rfl (.inl rfl)) (pgs_cons (pg_name (i := 6) sc_put.nd rfl (.inl rfl)) pgs_nil))))
      (pss_cons (ps_set (i := 7) sc_put.nd rfl (.inl rfl) (pe_lst pa_nil))
      (Evl.pss_cut (ps_for PassesOwn.never rfl (pi_list (pe_callB (cr_sortKT rfl hr.units) (by rfl) M.sorted (by decide +kernel) (pa_cons (pv 6) pa_nil))) (pg_name (i := 8) sc_put.nd rfl (.inl rfl)) (pss_cons (ps_set (i := 9) sc_put.nd rfl (.inl rfl) (pe_meth (pv 0) T.cl mG GG (hr.mono (j := 5) (by decide)) bG .nil pass0 (pa_cons (pv 4) (pa_cons (pv 8) (pa_cons (pe_dget hu (pv 6) (pv 8) (fun _ _ => rfl)) pa_nil)))))
      (Evl.pss_cut (ps_if (pt_cmpR op_isN (pv 9) pe_non (nomark _)) (pss_cons (ps_set (i := 9) sc_put.nd rfl (.inl rfl) (pe_meth (pv 0) T.cl mA GA (hr.mono (j := 5) (by decide)) bA .nil pass0 (pa_cons (pe_dget hu (pv 6) (pv 8) (fun _ _ => rfl)) pa_nil)))
      (pss_one (ps_set (i := 2) sc_put.nd rfl (.inl rfl) pe_bl))) pss_nil)
      (pss_one (ps_expr (pe_bm PySem.F.plainAttrs_list PySem.F.slot_list_append PySem.F.type_list_append mt_append (pv 7) (pa_cons (pe_tup (pa_cons (pv 8) (StX.pa_star (pv 9) pa_nil))) pa_nil)))))))
      (pss_one (ps_expr (pe_bm PySem.F.plainAttrs_list PySem.F.slot_list_append PySem.F.type_list_append mt_append (pv 3) (pa_cons (pe_tup (pa_cons (pv 4) (pa_cons (pv 5) (pa_cons (pe_callTy call_tuple_of (by rfl) M.tuple (by decide +kernel) (pa_cons (pv 7) pa_nil)) pa_nil)))) pa_nil))))))))
      (Evl.pss_cut (ps_if (pt_val (pv 2)) (pss_one (ps_expr (pe_meth (pe_fld (pv 0) rfl) TD.cl mY GY (hr.mono (j := 4) (by decide)) bY .nil pass0 (pa_cons (pe_meth0 (pv 0) T.cl mN GN (hr.mono (j := 2) (by decide)) bN .nil pass0) pa_nil)))) pss_nil)
      (pss_cons (ps_set (i := 10) sc_put.nd rfl (.inl rfl) (pe_meth0 (pv 0) T.cl mO GO (hr.mono (j := 1) (by decide)) bO .nil pass0))
      (pss_cons (ps_expr (pe_meth (pv 0) T.cl mW GW hr bW .nil pass0 (pa_cons (pe_make R.mkC GR (hr.mono (j := 2) (by decide)) (by rfl) gR bR .nil pass0 (pa_cons (pe_op op_add (pe_fld (pv 10) rfl) pe_int) (pa_cons (pe_fld (pv 10) rfl) (pa_cons (pe_op op_catA (pe_fld (pv 10) rfl) (pe_tup (pa_cons (pe_tup (pa_cons (pe_fld (pv 10) rfl) (pa_cons (pe_callTy call_tuple_of (by rfl) M.tuple (by decide +kernel) (pa_cons (pv 3) pa_nil)) pa_nil))) pa_nil))) pa_nil)))) pa_nil)))
      (pss_one (ps_ret (pe_fld (pv 10) rfl))))))))), ?_⟩
    have occ := h.occ
    refine ⟨Nat.zero_le _, fun L nL => ?_⟩
    have mL := same_new (o := .lst []) nL
    obtain ⟨ya, kvx, rfl, eya, aly⟩ := id hy
    have eya' := (hid_some eya).2
    refine ⟨fun σ H9 => ∃ b y4 y5 y6 y7 y8 y9 st9 p9 X as xs, σ = [some (.ref s), some (.ref ya), some (.bl b), some (.ref L), y4, y5, y6, y7, y8, y9, none] ∧ SSt H H9 s d st st9 p p9 ∧ PIn CS CD CC CR C H9 s d st D st9 p9 up da rs X b ∧ H9 L = some (.lst xs) ∧ ¬ ftS s d p9 st9.cs.length L ∧ All (ArAt (hid (ftS s d p9 st9.cs.length) H9) C) xs as ∧ as.map (vw (D ++ X)) = ms ∧ (∀ r ∈ as, ∀ c ∈ r.cs, Okc (D ++ X) c) ∧ X.length = cost D rs ms, ?_, ?_⟩
    · refine ⟨_, rfl, ya, _, ms.map Am.n, rfl, Rd.of (mL _ _ eya'), (by rw [zip_keys aly.1, List.map_map]; rfl), (by rw [List.length_map]; exact wm.ln), fun ys q1 pm sr nq => ?_⟩
      have eys : ys = ms.map Am.n := pw_perm (sorted_pw sr) (sorted_pw wm.nm.2) pm
      subst eys
      have mq := same_new (o := .lst ((ms.map Am.n).map V.str)) nq
      have nqH : H q1 = none := mL.free nq
      have nqL : q1 ≠ L := fun z => by rw [z, upd_same] at nq; cases nq
      obtain ⟨Hb, eHb⟩ : ∃ Hb, Hb = upd (upd H L (.lst [])) q1 (.lst ((ms.map Am.n).map V.str)) := ⟨_, rfl⟩
      have mb : Same H Hb := by rw [eHb]; exact mL.trans mq
      have bL : Hb L = some (.lst []) := by rw [eHb, upd_ne nqL.symm, upd_same]
      have bq : Hb q1 = some (.lst ((ms.map Am.n).map V.str)) := by rw [eHb, upd_same]
      rw [← eHb]
      have fq : ¬ ftS s d p st.cs.length q1 := fun f => occ _ f nqH
      have fL : ¬ ftS s d p st.cs.length L := fun f => occ _ f nL
      have hyb : AmsD (hid (fS s d p st.cs.length [L]) Hb) C (.ref ya) ms := hy.same (hid_ext mb fun l hl => by rw [List.mem_singleton.mp hl]; exact nL)
      refine ⟨q1, rfl, ⟨_, .inl (.inl bq)⟩, for_it (walk_list (xs := (ms.map Am.n).map V.str)) (fun i σ H3 => ∃ b y4 y5 y6 y7 y8 y9 st3 p3 X as xs, σ = [some (.ref s), some (.ref ya), some (.bl b), some (.ref L), y4, y5, y6, y7, y8, y9, none] ∧ XSt [L] Hb H3 s d st st3 p p3 ∧ PIn CS CD CC CR C H3 s d st D st3 p3 up da rs X b ∧ H3 L = some (.lst xs) ∧ ¬ ftS s d p3 st3.cs.length L ∧ All (ArAt (hid (fS s d p3 st3.cs.length [L]) H3) C) xs as ∧ as.map (vw (D ++ X)) = ms.take i ∧ (∀ r ∈ as, ∀ c ∈ r.cs, Okc (D ++ X) c) ∧ X.length = ((ms.map (costA D rs)).take i).sum) ?_ ?_ ?_ ?_⟩
      · exact ⟨false, none, none, none, none, none, none, st, p, [], [], [], rfl, XSt.refl, ⟨h.same mb, (by rw [List.append_nil]; exact hD), fun _ _ => rfl, fun m _ => qu.f m, fun _ => ⟨rfl, rfl, qu.f _⟩, (fun z => by cases z), (by rw [qu.c]; exact Nat.le_refl _)⟩, bL, fL, All.nil, rfl, (fun r hr => by cases hr), rfl⟩
      · rintro i σ H3 hi ⟨b, y4, y5, y6, y7, y8, y9, st3, p3, X, as, xs, rfl, x3, _⟩
        exact .inl (.inl (x3.out bq fq (by rw [List.mem_singleton]; exact nqL)).1)
      · rintro i x σ Hx H3 hi ⟨b, y4, y5, y6, y7, y8, y9, st3, p3, X, as, xs, rfl, x3, P3, eL, fL3, ala, evw, okA, lX⟩ ⟨rfl, hx⟩
        have hi2 : i < ms.length := by rw [List.length_map, List.length_map] at hi; exact hi
        generalize hm : ms[i] = m
        have em : ms[i]? = some m := by rw [List.getElem?_eq_getElem hi2, hm]
        have mm : m ∈ ms := List.mem_of_getElem? em
        rw [List.getElem?_map, List.getElem?_map, em] at hx
        obtain rfl : x = .str m.n := (Option.some.inj hx).symm
        obtain ⟨k1, k2, k3⟩ := wm.ck m mm
        have hy3 := hyb.same x3.hid
        obtain ⟨w0, g, tb, u, v, ew, et, hsh, hcs⟩ := DkM.get hy3 wm.nd mm
        subst ew
        obtain ⟨ca, ec⟩ := hcs.ref
        subst ec
        have g := dget_same g (hid_same _ _)
        have et' := (hid_some et).2
        refine ⟨_, rfl, _, rfl, ya, _, rfl, g, tb, _, rfl, SqT.of et', rfl, _, _, rfl, _, _, rfl, rfl, ?_⟩
        refine ⟨Nat.zero_le _, fun R nR => ?_⟩
        have mR := same_new (o := .lst []) nR
        have nRL : R ≠ L := fun z => by rw [z, eL] at nR; cases nR
        have occ3 := P3.k.occ
        have costX : ∀ j, X.length + ((m.cs.map (costC D rs m.n)).take j).sum ≤ cost D rs ms := fun j => by
          have h1 := sum_take (m.cs.map (costC D rs m.n)) j
          have h2 := sum_succ (l := ms.map (costA D rs)) (i := i) (by rw [List.length_map]; exact hi2)
          have h3 := sum_take (ms.map (costA D rs)) (i + 1)
          rw [List.getElem_map, hm] at h2
          have h4 : (m.cs.map (costC D rs m.n)).sum = costA D rs m := rfl
          have h5 : (ms.map (costA D rs)).sum = cost D rs ms := rfl
          omega
        refine ⟨fun σ H7 => ∃ b y8 y9 st7 p7 E cs zs, σ = [some (.ref s), some (.ref ya), some (.bl b), some (.ref L), some (.str m.n), some u, some (.ref ca), some (.ref R), y8, y9, none] ∧ XSt [L] H3 H7 s d st3 st7 p3 p7 ∧ PIn CS CD CC CR C H7 s d st D st7 p7 up da rs (X ++ E) b ∧ H7 R = some (.lst zs) ∧ H7 L = some (.lst xs) ∧ ¬ ftS s d p7 st7.cs.length L ∧ All (CkAt (hid (ftS s d p7 st7.cs.length) H7)) zs cs ∧ cs.map (fun c => (c.c, recO (D ++ (X ++ E)) c)) = m.cs ∧ (∀ c ∈ cs, Okc (D ++ (X ++ E)) c) ∧ E.length = costA D rs m, ?_, ?_⟩
        · obtain ⟨ca', cvx, e1, eca, alc⟩ := id hcs
          cases e1
          have eca' := mR _ _ (hid_some eca).2
          refine ⟨_, rfl, ca, _, m.cs.map (·.1), rfl, Rd.of eca', (by rw [zip_keys alc.1, List.map_map]; rfl), k1, (fun r hr => by
            obtain ⟨c, hc, rfl⟩ := List.mem_map.mp hr
            exact k2 c hc), (by rw [List.length_map]; omega), fun q2 bs nq2 kat => ?_⟩
          have mq2 := same_new (o := .lst (bs.map V.ref)) nq2
          have nq2H : H3 q2 = none := mR.free nq2
          have nq2R : q2 ≠ R := fun z => by rw [z, upd_same] at nq2; cases nq2
          obtain ⟨H5, eH5⟩ : ∃ H5, H5 = upd (upd H3 R (.lst [])) q2 (.lst (bs.map V.ref)) := ⟨_, rfl⟩
          have m35 : Same H3 H5 := by rw [eH5]; exact mR.trans mq2
          have bR : H5 R = some (.lst []) := by rw [eH5, upd_ne nq2R.symm, upd_same]
          have bq2 : H5 q2 = some (.lst (bs.map V.ref)) := by rw [eH5, upd_same]
          rw [← eH5]
          have fq2 : ¬ ftS s d p3 st3.cs.length q2 := fun f => occ3 _ f nq2H
          have fR : ¬ ftS s d p3 st3.cs.length R := fun f => occ3 _ f nR
          have P5 := P3.same m35
          have hc5 : MsD (hid (fS s d p3 st3.cs.length [R]) H5) (.ref ca) m.cs := hcs.same (hid_sw m35 fun l hl => by rw [List.mem_singleton.mp hl]; exact nR)
          have lb : bs.length = m.cs.length := by have := kat.1; rwa [List.length_map] at this
          have kt5 : ∀ (j : Nat) (b : Addr) (c : List Int × List Int), bs[j]? = some b → m.cs[j]? = some c → H5 b = some (.tup (c.1.map V.int)) := fun j b c e1 e2 => by
            rw [eH5]
            exact mq2 _ _ (kat.2 j b c.1 e1 (by rw [List.getElem?_map, e2]; rfl))
          refine ⟨q2, rfl, ⟨_, .inl (.inl bq2)⟩, for_it (walk_list (xs := bs.map V.ref)) (fun j σ H6 => ∃ b y8 y9 st6 p6 E cs zs, σ = [some (.ref s), some (.ref ya), some (.bl b), some (.ref L), some (.str m.n), some u, some (.ref ca), some (.ref R), y8, y9, none] ∧ XSt [R] H5 H6 s d st3 st6 p3 p6 ∧ PIn CS CD CC CR C H6 s d st D st6 p6 up da rs (X ++ E) b ∧ H6 R = some (.lst zs) ∧ ¬ ftS s d p6 st6.cs.length R ∧ All (CkAt (hid (fS s d p6 st6.cs.length [R]) H6)) zs cs ∧ cs.map (fun c => (c.c, recO (D ++ (X ++ E)) c)) = m.cs.take j ∧ (∀ c ∈ cs, Okc (D ++ (X ++ E)) c) ∧ E.length = ((m.cs.map (costC D rs m.n)).take j).sum) ?_ ?_ ?_ ?_⟩
          · exact ⟨b, y8, y9, st3, p3, [], [], [], rfl, XSt.refl, (by rw [List.append_nil]; exact P5), bR, fR, All.nil, rfl, (fun c hc => by cases hc), rfl⟩
          · rintro j σ H6 hj ⟨b, y8, y9, st6, p6, E, cs, zs, rfl, x6, _⟩
            exact .inl (.inl (x6.out bq2 fq2 (by rw [List.mem_singleton]; exact nq2R)).1)
          · rintro j x σ H6 Hy hj ⟨b, y8, y9, st6, p6, E, cs, zs, rfl, x6, P6, eR, fR6, alk, ecs, okC, lE⟩ ⟨rfl, hx⟩
            have hj2 : j < m.cs.length := by rw [List.length_map] at hj; omega
            obtain ⟨pl, os, epo⟩ : ∃ pl os, m.cs[j] = (pl, os) := ⟨_, _, rfl⟩
            have ec : m.cs[j]? = some (pl, os) := by rw [List.getElem?_eq_getElem hj2, epo]
            have mc : (pl, os) ∈ m.cs := List.mem_of_getElem? ec
            have ebs : bs[j]? = some bs[j] := List.getElem?_eq_getElem (by omega)
            generalize bs[j]'(by omega) = bj at ebs
            rw [List.getElem?_map, ebs] at hx
            obtain rfl : x = .ref bj := (Option.some.inj hx).symm
            have hb5 := kt5 j bj _ ebs ec
            have fb5 : ¬ ftS s d p3 st3.cs.length bj := P5.k.tup hb5
            have nbR : bj ≠ R := fun z => by rw [z, bR] at hb5; cases hb5
            obtain ⟨hb6, fb6⟩ := x6.out hb5 fb5 (by rw [List.mem_singleton]; exact nbR)
            have hc6 := hc5.same x6.hid
            obtain ⟨z, gz, l, rfl, el⟩ := DtM.get (b := bj) hc6 (hid_same _ _) (asc_ndm k1) mc (by rw [kI_v]; exact hb6)
            obtain ⟨fl6, el6⟩ := hid_some el
            have el6 : Hy l = some (.lst (os.map V.int)) := el6
            have lt : E.length + costC D rs m.n (pl, os) = ((m.cs.map (costC D rs m.n)).take (j + 1)).sum := by
              rw [sum_succ (by rw [List.length_map]; exact hj2), List.getElem_map, epo, lE]
            have cj := costX (j + 1)
            obtain ⟨dx6, ra6, yy6, hi6, _⟩ := P6.k.i
            have S6 := P6.k
            have okv6 : OkV (D ++ (X ++ E)) rs := okv.app
            have ag := again_app (X := X ++ E) okv m.n pl os
            refine ⟨_, rfl, s, dx6, _, rfl, hi6, rfl, _, rfl, _, rfl, _, rfl, _, rfl, ca, .ref l, rfl, gz, s, d, bj, l, st6, p6, up, da, rs, m.n, pl, os, D ++ (X ++ E), rfl, S6, hb6, el6, P6.r, okv6, ?_, ?_⟩
            all_goals rw [ag]
            · intro en H7 m7
              refine ⟨fun σ H9 => ∃ b q st9 p9 E' c, σ = [some (.ref s), some (.ref ya), some (.bl b), some (.ref L), some (.str m.n), some u, some (.ref ca), some (.ref R), some (.ref bj), some (.ref q), none] ∧ XSt [R] H5 H9 s d st3 st9 p3 p9 ∧ PIn CS CD CC CR C H9 s d st D st9 p9 up da rs (X ++ E') b ∧ H9 R = some (.lst zs) ∧ ¬ ftS s d p9 st9.cs.length R ∧ All (CkAt (hid (fS s d p9 st9.cs.length [R]) H9)) zs cs ∧ cs.map (fun c => (c.c, recO (D ++ (X ++ E')) c)) = m.cs.take j ∧ (∀ c ∈ cs, Okc (D ++ (X ++ E')) c) ∧ E'.length = ((m.cs.map (costC D rs m.n)).take (j + 1)).sum ∧ H9 q = some (.tup [.int c.o, .int c.l]) ∧ H9 bj = some (.tup (pl.map V.int)) ∧ c.c = pl ∧ Okc (D ++ (X ++ E')) c ∧ recO (D ++ (X ++ E')) c = os, ?_, ?_⟩
              · have P7 := P6.same m7
                obtain ⟨dx7, ra7, yy7, hi7, _⟩ := P7.k.i
                have ce : costC D rs m.n (pl, os) = 4 + os.length := by
                  unfold costC
                  rw [if_pos en]
                have lD : (D ++ (X ++ E)).length = D.length + (X.length + E.length) := by rw [List.length_append, List.length_append]
                have ch := P7.c
                rw [List.length_append] at ch
                refine ⟨_, rfl, rfl, _, rfl, iteT ?_⟩
                refine ⟨_, rfl, s, dx7, _, rfl, hi7, rfl, _, rfl, _, rfl, ca, .ref l, rfl, dget_same gz m7, s, d, l, st6, p6, up, da, rs, os, rfl, P7.k, m7 _ _ el6, (fun z => fl6 (.inl z)), ?_, by omega, fun H8 p8 st8 q8 s8 S8 a8 e8 => ?_⟩
                · rw [P7.r, lD]
                  omega
                have P8 := P7.app S8 a8 (by intro z; have := congrArg List.length z; rw [List.length_append] at this; have l4 : (w4 (sumO os)).length = 4 := rfl; rw [l4] at this; simp at this)
                rw [List.append_assoc] at P8
                have x8 : XSt [R] H5 H8 s d st3 st8 p3 p8 := (x6.seq m7).trans s8.x
                obtain ⟨eR8, fR8⟩ := (show XSt [] Hy H8 s d st6 st8 p6 p8 from (XSt.same m7).trans s8.x).out eR fR6 List.not_mem_nil
                obtain ⟨oc, rc⟩ := okc_new (D ++ (X ++ E)) os pl
                have ex : D ++ (X ++ (E ++ (w4 (sumO os) ++ os))) = D ++ (X ++ E) ++ (w4 (sumO os) ++ os) := by simp only [List.append_assoc]
                refine ⟨true, q8, st8, p8, E ++ (w4 (sumO os) ++ os), ⟨pl, ((D ++ (X ++ E)).length : Int), (os.length : Int)⟩, rfl, x8, P8, eR8, fR8, alk.imp fun z c hk => hk.same ?_, ?_, ?_, ?_, ?_, x8.out hb5 fb5 (by rw [List.mem_singleton]; exact nbR) |>.1, rfl, by rw [ex]; exact oc, by rw [ex]; exact rc⟩
                · exact ((XSt.same m7).trans s8.x : XSt [R] Hy H8 s d st6 st8 p6 p8).hid
                · rw [ex, ← ecs]
                  exact List.map_congr_left fun c hc => by rw [recO_app (okC c hc)]
                · intro c hc
                  rw [ex]
                  exact (okC c hc).app
                · rw [← lt, ce, List.length_append, List.length_append]
                  rfl
                · have e8' := (hid_some e8).2
                  rw [P7.r] at e8'
                  exact e8'
              · rintro σ H9 ⟨b, q, st9, p9, E', c, rfl, x9, P9, eR9, fR9, alk9, ecs9, okC9, lE9, eq9, hb9, ecc, oc9, rc9⟩
                refine ⟨_, rfl, .inl ⟨rfl, _, .inl (.inl eR9)⟩, _, rfl, _, rfl, q, _, rfl, .inl (SqT.of eq9), (by show 3 ≤ sizeLine; decide), fun t nt => ?_⟩
                have m9 := same_new (o := .tup [.ref bj, .int c.o, .int c.l]) nt
                have ett : (upd H9 t (.tup [.ref bj, .int c.o, .int c.l])) t = some (.tup [.ref bj, .int c.o, .int c.l]) := upd_same
                have eRt := m9 _ _ eR9
                have lz := alk9.1
                obtain ⟨Ht, eHt⟩ : ∃ Ht, Ht = upd H9 t (.tup [.ref bj, .int c.o, .int c.l]) := ⟨_, rfl⟩
                rw [← eHt] at m9 ett
                have lc : cs.length = j := by
                  have := congrArg List.length ecs9
                  rw [List.length_map, List.length_take] at this
                  omega
                refine ⟨R, zs, _, rfl, rfl, eRt, small1000 (by omega), ?_⟩
                have eRt : Ht R = some (.lst zs) := by rw [eHt]; exact eRt
                have P9t := P9.same m9
                show ∃ b y8 y9 st6 p6 E cs zs, _ = _ ∧ _
                have hidR : ∀ {a x}, hid (fS s d p9 st9.cs.length [R]) Ht a = some x → hid (fS s d p9 st9.cs.length [R]) (upd Ht R (.lst (zs ++ [.ref t]))) a = some x := fun {a x} e => hid_mk (hid_some e).1 (by
                  rw [upd_ne (show a ≠ R from fun z => (hid_some e).1 (.inr (List.mem_singleton.mpr z)))]
                  exact (hid_some e).2)
                have tupR : ∀ {a r}, Ht a = some (.tup r) → hid (fS s d p9 st9.cs.length [R]) Ht a = some (.tup r) := fun {a r} e => hid_mk (fun z => by
                  rcases z with z | z
                  · exact P9t.k.tup e z
                  · rw [List.mem_singleton.mp z, eRt] at e; cases e) e
                have e3 : m.cs.take (j + 1) = m.cs.take j ++ [(pl, os)] := by rw [List.take_add_one, ec]; rfl
                simp only [List.cons_append, List.nil_append]
                rw [← eHt]
                refine ⟨b, some (.ref bj), some (.ref q), st9, p9, E', cs ++ [c], zs ++ [.ref t], rfl, (x9.seq m9).trans (XSt.put List.mem_cons_self), P9t.putL eRt fR9, upd_same, fR9, ?_, ?_, ?_, lE9⟩
                · exact All.push (alk9.imp fun z k hk => (hk.same (hid_of_same m9)).same fun a x e => hidR e) ⟨t, bj, rfl, hidR (tupR ett), hidR (tupR (by rw [ecc]; exact m9 _ _ hb9))⟩
                · rw [List.map_append, ecs9, e3]
                  show _ ++ [(c.c, recO (D ++ (X ++ E')) c)] = _
                  rw [ecc, rc9]
                · intro k hk
                  rcases List.mem_append.mp hk with z | z
                  · exact okC9 k z
                  · rw [List.mem_singleton.mp z]
                    exact oc9
            · intro c0 en H7 q7 m7 e7
              refine ⟨fun σ H9 => ∃ b q st9 p9 E' c, σ = [some (.ref s), some (.ref ya), some (.bl b), some (.ref L), some (.str m.n), some u, some (.ref ca), some (.ref R), some (.ref bj), some (.ref q), none] ∧ XSt [R] H5 H9 s d st3 st9 p3 p9 ∧ PIn CS CD CC CR C H9 s d st D st9 p9 up da rs (X ++ E') b ∧ H9 R = some (.lst zs) ∧ ¬ ftS s d p9 st9.cs.length R ∧ All (CkAt (hid (fS s d p9 st9.cs.length [R]) H9)) zs cs ∧ cs.map (fun c => (c.c, recO (D ++ (X ++ E')) c)) = m.cs.take j ∧ (∀ c ∈ cs, Okc (D ++ (X ++ E')) c) ∧ E'.length = ((m.cs.map (costC D rs m.n)).take (j + 1)).sum ∧ H9 q = some (.tup [.int c.o, .int c.l]) ∧ H9 bj = some (.tup (pl.map V.int)) ∧ c.c = pl ∧ Okc (D ++ (X ++ E')) c ∧ recO (D ++ (X ++ E')) c = os, ?_, ?_⟩
              · obtain ⟨o0, c1, r0⟩ := again_is okv en
                have ce : costC D rs m.n (pl, os) = 0 := by
                  unfold costC
                  rw [if_neg]
                  intro z
                  rw [show again D rs m.n (pl, os).1 (pl, os).2 = some c0 from en] at z
                  cases z
                refine ⟨_, rfl, rfl, _, rfl, iteF ?_⟩
                refine ⟨b, q7, st6, p6, E, c0, rfl, x6.seq m7, P6.same m7, m7 _ _ eR, fR6, alk.imp fun z c hk => hk.same (hid_of_same m7), ecs, okC, by rw [← lt, ce, Nat.add_zero], (hid_some e7).2, m7 _ _ hb6, c1, o0.app, by rw [recO_app o0]; exact r0⟩
              · rintro σ H9 ⟨b, q, st9, p9, E', c, rfl, x9, P9, eR9, fR9, alk9, ecs9, okC9, lE9, eq9, hb9, ecc, oc9, rc9⟩
                refine ⟨_, rfl, .inl ⟨rfl, _, .inl (.inl eR9)⟩, _, rfl, _, rfl, q, _, rfl, .inl (SqT.of eq9), (by show 3 ≤ sizeLine; decide), fun t nt => ?_⟩
                have m9 := same_new (o := .tup [.ref bj, .int c.o, .int c.l]) nt
                have ett : (upd H9 t (.tup [.ref bj, .int c.o, .int c.l])) t = some (.tup [.ref bj, .int c.o, .int c.l]) := upd_same
                have eRt := m9 _ _ eR9
                have lz := alk9.1
                obtain ⟨Ht, eHt⟩ : ∃ Ht, Ht = upd H9 t (.tup [.ref bj, .int c.o, .int c.l]) := ⟨_, rfl⟩
                rw [← eHt] at m9 ett
                have lc : cs.length = j := by
                  have := congrArg List.length ecs9
                  rw [List.length_map, List.length_take] at this
                  omega
                refine ⟨R, zs, _, rfl, rfl, eRt, small1000 (by omega), ?_⟩
                have eRt : Ht R = some (.lst zs) := by rw [eHt]; exact eRt
                have P9t := P9.same m9
                show ∃ b y8 y9 st6 p6 E cs zs, _ = _ ∧ _
                have hidR : ∀ {a x}, hid (fS s d p9 st9.cs.length [R]) Ht a = some x → hid (fS s d p9 st9.cs.length [R]) (upd Ht R (.lst (zs ++ [.ref t]))) a = some x := fun {a x} e => hid_mk (hid_some e).1 (by
                  rw [upd_ne (show a ≠ R from fun z => (hid_some e).1 (.inr (List.mem_singleton.mpr z)))]
                  exact (hid_some e).2)
                have tupR : ∀ {a r}, Ht a = some (.tup r) → hid (fS s d p9 st9.cs.length [R]) Ht a = some (.tup r) := fun {a r} e => hid_mk (fun z => by
                  rcases z with z | z
                  · exact P9t.k.tup e z
                  · rw [List.mem_singleton.mp z, eRt] at e; cases e) e
                have e3 : m.cs.take (j + 1) = m.cs.take j ++ [(pl, os)] := by rw [List.take_add_one, ec]; rfl
                simp only [List.cons_append, List.nil_append]
                rw [← eHt]
                refine ⟨b, some (.ref bj), some (.ref q), st9, p9, E', cs ++ [c], zs ++ [.ref t], rfl, (x9.seq m9).trans (XSt.put List.mem_cons_self), P9t.putL eRt fR9, upd_same, fR9, ?_, ?_, ?_, lE9⟩
                · exact All.push (alk9.imp fun z k hk => (hk.same (hid_of_same m9)).same fun a x e => hidR e) ⟨t, bj, rfl, hidR (tupR ett), hidR (tupR (by rw [ecc]; exact m9 _ _ hb9))⟩
                · rw [List.map_append, ecs9, e3]
                  show _ ++ [(c.c, recO (D ++ (X ++ E')) c)] = _
                  rw [ecc, rc9]
                · intro k hk
                  rcases List.mem_append.mp hk with z | z
                  · exact okC9 k z
                  · rw [List.mem_singleton.mp z]
                    exact oc9
          · rintro σ H6 ⟨b, y8, y9, st6, p6, E, cs, zs, rfl, x6, P6, eR, fR6, alk, ecs, okC, lE⟩
            rw [List.length_map, lb] at ecs lE
            rw [List.take_of_length_le (by rw [List.length_map]; exact Nat.le_refl _)] at lE
            rw [List.take_length] at ecs
            have nLR : L ∉ [R] := by rw [List.mem_singleton]; exact nRL.symm
            obtain ⟨eL6, fL6⟩ := x6.out (m35 _ _ eL) fL3 nLR
            have x36 : XSt [L] H3 H6 s d st3 st6 p3 p6 := XSt.drop (R := R) (XSt.same m35) x6.more nR
            exact ⟨b, y8, y9, st6, p6, E, cs, zs, rfl, x36, P6, eR, eL6, fL6, alk.imp fun z c hk => hk.same (hid_le fun _ f => .inl f), ecs, okC, lE⟩
        · rintro σ H7 ⟨b, y8, y9, st7, p7, E, cs, zs, rfl, x7, P7, eR, eL7, fL7, alk, ecs, okC, lE⟩
          refine ⟨_, rfl, .inl ⟨rfl, _, .inl (.inl eL7)⟩, _, rfl, _, rfl, _, rfl, R, zs, rfl, .inl ⟨.inl (.inl eR), fun tt ntt => ⟨(by show 3 ≤ sizeLine; decide), fun t nt => ?_⟩⟩⟩
          have m1 := same_new (o := .tup zs) ntt
          have m2 := same_new (o := .tup [.str m.n, u, .ref tt]) nt
          have m12 := m1.trans m2
          obtain ⟨H8, eH8⟩ : ∃ H8, H8 = upd (upd H7 tt (.tup zs)) t (.tup [.str m.n, u, .ref tt]) := ⟨_, rfl⟩
          have et8 : H8 t = some (.tup [.str m.n, u, .ref tt]) := by rw [eH8, upd_same]
          have ett8 : H8 tt = some (.tup zs) := by rw [eH8]; exact m2 _ _ upd_same
          rw [← eH8] at m12 ⊢
          have P8 := P7.same m12
          have eL8 := m12 _ _ eL7
          have lxs := ala.1
          have las : as.length ≤ ms.length := by
            have := congrArg List.length evw
            rw [List.length_map, List.length_take] at this
            omega
          have wl := wm.ln
          refine ⟨L, xs, _, rfl, rfl, eL8, small1000 (by omega), ?_⟩
          have hidL : ∀ {a x}, hid (fS s d p7 st7.cs.length [L]) H8 a = some x → hid (fS s d p7 st7.cs.length [L]) (upd H8 L (.lst (xs ++ [.ref t]))) a = some x := fun {a x} e => hid_mk (hid_some e).1 (by
            rw [upd_ne (show a ≠ L from fun z => (hid_some e).1 (.inr (List.mem_singleton.mpr z)))]
            exact (hid_some e).2)
          have tupL : ∀ {a r}, H8 a = some (.tup r) → hid (fS s d p7 st7.cs.length [L]) H8 a = some (.tup r) := fun {a r} e => hid_mk (fun z => by
            rcases z with z | z
            · exact P8.k.tup e z
            · rw [List.mem_singleton.mp z, eL8] at e; cases e) e
          have s38 : Same (hid (fS s d p3 st3.cs.length [L]) H3) (hid (fS s d p7 st7.cs.length [L]) (upd H8 L (.lst (xs ++ [.ref t])))) := fun a x e => hidL (hid_of_same m12 _ _ (x7.hid _ _ e))
          have LS : XSt [L] Hb (upd H8 L (.lst (xs ++ [.ref t]))) s d st st7 p p7 := ((x3.trans x7).seq m12).trans (XSt.put List.mem_cons_self)
          have kL : ∀ a o, H8 a = some o → a ≠ L → (upd H8 L (.lst (xs ++ [.ref t]))) a = some o := fun a o e n => by rw [upd_ne n]; exact e
          have P9 : PIn CS CD CC CR C (upd H8 L (.lst (xs ++ [.ref t]))) s d st D st7 p7 up da rs (X ++ E) b := P8.putL eL8 fL7
          have l1 : List.length as = i := by
            have := congrArg List.length evw
            rw [List.length_map, List.length_take] at this
            omega
          refine ⟨b, _, _, _, _, _, _, st7, p7, X ++ E, as ++ [⟨m.n, m.ds, m.ts, cs⟩], xs ++ [.ref t], rfl, LS, P9, upd_same, fL7, ?_, ?_, ?_, ?_⟩
          · refine All.push (ala.imp fun z r hr2 => hr2.same s38) ⟨t, u, .ref tt, rfl, hidL (tupL et8), hsh.same s38, tt, zs, rfl, hidL (tupL ett8), alk.imp fun z c ⟨g1, g2, g3, g4, g5⟩ => ⟨g1, g2, g3, hidL (tupL (m12 _ _ (hid_some g4).2)), hidL (tupL (m12 _ _ (hid_some g5).2))⟩⟩
          · rw [List.map_append, vw_app okA, evw, List.take_add_one, em]
            congr 1
            show [vw (D ++ (X ++ E)) ⟨m.n, m.ds, m.ts, cs⟩] = [m]
            unfold vw
            show [(⟨m.n, m.ds, m.ts, cs.map fun c => (c.c, recO (D ++ (X ++ E)) c)⟩ : Am)] = [m]
            rw [ecs]
          · intro r hr2 c hc
            rcases List.mem_append.mp hr2 with z | z
            · rw [← List.append_assoc]
              exact (okA r z c hc).app
            · rw [List.mem_singleton.mp z] at hc
              exact okC c hc
          · rw [List.length_append, lX, lE, sum_succ (by rw [List.length_map]; exact hi2), List.getElem_map, hm]
      · rintro σ H3 ⟨b, y4, y5, y6, y7, y8, y9, st3, p3, X, as, xs, rfl, x3, P3, eL, fL3, ala, evw, okA, lX⟩
        rw [List.length_map, List.length_map] at evw lX
        rw [List.take_length] at evw
        rw [List.take_of_length_le (by rw [List.length_map]; exact Nat.le_refl _)] at lX
        exact ⟨b, y4, y5, y6, y7, y8, y9, st3, p3, X, as, xs, rfl, XSt.toS mb (fun l hl => by rw [List.mem_singleton.mp hl]; exact nL) occ x3, P3, eL, fL3, ala.imp fun z r hr2 => hr2.same (hid_le fun _ f => .inl f), evw, okA, lX⟩
    rintro σ H2 ⟨b, y4, y5, y6, y7, y8, y9, st2, p2, X, as, xs, rfl, s2, P2, eL, fL2, ala, evw, okA, lX⟩
    refine ⟨fun σ H3 => ∃ st3 p3, σ = [some (.ref s), some (.ref ya), some (.bl b), some (.ref L), y4, y5, y6, y7, y8, y9, none] ∧ SSt H H3 s d st st3 p p3 ∧ StAt CS CD CC CR C H3 s d st3 p3 up da rs ∧ (∀ m, st3.rd m = st2.rd m) ∧ (∀ m, st3.ful m) ∧ st3.chg = st2.chg ∧ H3 L = some (.lst xs) ∧ All (ArAt (hid (ftS s d p3 st3.cs.length) H3) C) xs as, ?_, ?_⟩
    · refine ⟨_, rfl, b, rfl, ?_⟩
      cases b with
      | false =>
        obtain ⟨_, _, f0⟩ := P2.b0 rfl
        exact iteF ⟨st2, p2, rfl, s2, P2.k, fun _ => rfl, (fun m => by
          by_cases z : m = dN da
          · rw [z]; exact f0
          · exact P2.f m z), rfl, eL, ala⟩
      | true =>
        obtain ⟨dx2, ra2, yy2, hi2, _⟩ := P2.k.i
        obtain ⟨dxd, hd⟩ := P2.k.k.inst
        have nfL : ¬ foot d p2 st2.cs.length L := fun f => fL2 (.inl f)
        refine iteT ⟨_, rfl, s, CS, dx2, _, .ref d, rfl, hi2, T.cl, T.na _ (by decide +kernel), rfl, d, dxd, _, rfl, hd, rfl, _, rfl, s, dx2, _, rfl, hi2, rfl, s, d, st2, p2, up, da, rs, rfl, P2.k, d, st2, p2, dN da, rfl, P2.k.k, P2.k.g, (P2.b1 rfl).1, fun H3 p3 st3 stp a3 => ?_⟩
        have ss := stp.sst (s := s)
        exact ⟨st3, p3, rfl, s2.trans ss, P2.k.stp stp a3.nice, a3.rd, (fun m => a3.ful m (by
          by_cases z : m = dN da
          · exact .inl z
          · exact .inr (P2.f m z))), a3.chg, stp.o _ _ eL nfL, ala.imp fun z r hr2 => hr2.same ss.hid⟩
    rintro σ H3 ⟨st3, p3, rfl, s3, S3, rd3, f3, c3, eL3, ala3⟩
    obtain ⟨dx3, ra3, yy3, hi3, _⟩ := S3.i
    have c700 : st3.chg.length < 700 := by rw [c3]; have := P2.c; omega
    have las : as.length = ms.length := by have := congrArg List.length evw; rwa [List.length_map] at this
    obtain ⟨gv, ln, wf⟩ := gd as X evw lX okA
    refine ⟨_, rfl, s, dx3, _, rfl, hi3, rfl, s, d, st3, p3, up, da, rs, rfl, S3, fun ra hra => ?_⟩
    obtain ⟨ra', dxr, uv, er, era, vt, vx, ruv, evt, alv⟩ := id hra
    cases er
    subst ruv
    have era' := (hid_some era).2
    have evt' := (hid_some evt).2
    have lv := alv.1
    have lxs := ala3.1
    have wl2 := h.w.l
    refine ⟨_, rfl, s, dx3, _, rfl, hi3, rfl, _, rfl, ra, CR, dxr, _, .int up, rfl, era', R.cl, R.na _ (by decide +kernel), rfl, up, 1, rfl, rfl, _, rfl, ra, CR, dxr, _, .int da, rfl, era', R.cl, R.na _ (by decide +kernel), rfl, _, rfl, ra, CR, dxr, _, .ref vt, rfl, era', R.cl, R.na _ (by decide +kernel), rfl, _, rfl, ra, CR, dxr, _, .int up, rfl, era', R.cl, R.na _ (by decide +kernel), rfl, _, rfl, L, xs, rfl, .inl ⟨.inl (.inl eL3), fun tl ntl => ⟨(by show 2 ≤ sizeLine; decide), fun t1 nt1 => ⟨(by show 1 ≤ sizeLine; decide), fun t2 nt2 => ?_⟩⟩⟩⟩
    have m1 := same_new (o := .tup xs) ntl
    have m2 := same_new (o := .tup [.int up, .ref tl]) nt1
    have m3 := same_new (o := .tup [.ref t1]) nt2
    have e2 : (upd (upd (upd H3 tl (.tup xs)) t1 (.tup [.int up, .ref tl])) t2 (.tup [.ref t1])) t2 = some (.tup [.ref t1]) := upd_same
    have e1 := m3 _ _ (upd_same (a := t1) (H := upd H3 tl (.tup xs)) (o := .tup [.int up, .ref tl]))
    have el := m3 _ _ (m2 _ _ (upd_same (a := tl) (H := H3) (o := .tup xs)))
    have m123 : Same H3 (upd (upd (upd H3 tl (.tup xs)) t1 (.tup [.int up, .ref tl])) t2 (.tup [.ref t1])) := m1.trans (m2.trans m3)
    generalize (upd (upd (upd H3 tl (.tup xs)) t1 (.tup [.int up, .ref tl])) t2 (.tup [.ref t1])) = H4 at e1 e2 el m123
    refine cat_tup (m123 _ _ evt') e2 ?_ fun pv Hc mc epv => ?_
    · rw [lv]
      exact Nat.le_trans (m := 100) (show rs.length + 1 ≤ 100 from Nat.le_trans wl2 (by decide)) (by decide)
    intro x dx0 nx ndx nex
    refine ⟨x, dx0, _, _, _, rfl, upd_same, fun H5 x5 e5 => ⟨rfl, ?_⟩⟩
    have m5 : Same Hc H5 := mk_same nx ndx x5
    have m35 : Same H3 H5 := m123.trans (mc.trans m5)
    have S5 := S3.same m35
    have tup5 : ∀ {a r}, H5 a = some (.tup r) → hid (ftS s d p3 st3.cs.length) H5 a = some (.tup r) := fun e => hid_mk (S5.tup e) e
    have fx : ¬ ftS s d p3 st3.cs.length x := fun f => S3.occ _ f (m123.free (mc.free nx))
    have h35 : Same (hid (ftS s d p3 st3.cs.length) H3) (hid (ftS s d p3 st3.cs.length) H5) := hid_of_same m35
    have rt5 : RtAt (hid (ftS s d p3 st3.cs.length) H5) CR C (.ref x) (up + 1) da (rs ++ [⟨up, as⟩]) := ⟨x, dx0, .ref pv, rfl, hid_mk fx e5, pv, vx ++ [.ref t1], rfl, tup5 (m5 _ _ epv), All.push (alv.imp fun z r hz => hz.same h35) ⟨t1, .ref tl, rfl, tup5 (m5 _ _ (mc _ _ e1)), tl, xs, rfl, tup5 (m5 _ _ (mc _ _ el)), ala3.imp fun z r hz => hz.same h35⟩⟩
    have rn : st3.rd "root.new" = none := by
      rw [rd3, P2.o _ (dn_of h.b).2.2.2.1.symm]
      exact hn
    refine ⟨s, d, x, st3, p3, up, da, rs, up + 1, da, rs ++ [⟨up, as⟩], G, rfl, ?_⟩
    refine ⟨S5, gk.sst (s3.seq m35), rt5, gv, ln, rn, c700, f3, h.b, wf, fun H6 p6 st6 s6 S6 G6 q6 r6 o6 => ?_⟩
    have era6 := (hid_some (s6.hid _ _ (h35 _ _ era))).2
    have nr : dN da ≠ "root" := (dn_of h.b).2.2.1
    have o6d : st6.rd (dN da) = st2.rd (dN da) := (o6 (dN da) nr).trans (rd3 _)
    refine ⟨_, rfl, ra, CR, dxr, _, .int up, rfl, era6, R.cl, R.na _ (by decide +kernel), rfl, q H6 p6 st6 as X ((s3.seq m35).trans s6) S6 G6 q6 r6 (fun m h1 h2 => (o6 m h1).trans ((rd3 m).trans (P2.o m h2))) (by rw [o6d]; exact P2.r) (fun e => ?_) (fun e => ?_) evw okA lX⟩
    · rw [o6d]
      cases b with
      | false => exact (P2.b0 rfl).2.1
      | true => exact absurd e (P2.b1 rfl).2
    · rw [o6d]
      cases b with
      | false => exact absurd (P2.b0 rfl).1 e
      | true => exact (P2.b1 rfl).1
end
end K2

namespace K2
open PySem L2
structure DrM (m : Am) : Prop where
  sh : DrSh m.ds m.ts
  cs : (m.cs.map (·.1)).Sublist (rowsF m.ds)
  l : m.cs.length ≤ 6
  o : ∀ c ∈ m.cs, c.2.length ≤ 4
structure DrMs (ms : List Am) : Prop where
  n : (ms.map Am.n).Sublist (["a", "b", "long"] : List Str)
  m : ∀ m ∈ ms, DrM m
theorem abl_pw : (["a", "b", "long"] : List Str).Pairwise fun a b => PySem.Spec.ltCps b.cps.toList a.cps.toList = false := by decide +kernel
theorem abl_nd : (["a", "b", "long"] : List Str).Nodup := by decide +kernel
theorem abl_lt : (["a", "b", "long"] : List Str).Pairwise fun a b => a.cps.toList < b.cps.toList := by decide +kernel
theorem asc_of {rs : List (List Int)} (h : Asc rs) : AscL rs := h
theorem rows_asc (ds : List D) : AscL (rowsF ds) ∧ ∀ r ∈ rowsF ds, r.length = ds.length := by
  obtain ⟨h1, h2⟩ := rowsF_ok ds ds.length (Nat.le_refl _)
  rw [List.take_length] at h1 h2
  exact ⟨h1, fun r hr => (h2 r hr).1⟩
theorem DrM.wf {m : Am} (h : DrM m) : AscL (m.cs.map (·.1)) ∧ (∀ c ∈ m.cs, c.1 ≠ []) ∧ m.cs.length ≤ 1000 := by
  obtain ⟨h1, h2⟩ := rows_asc m.ds
  refine ⟨h1.sublist h.cs, fun c hc e => ?_, Nat.le_trans h.l (by decide)⟩
  have := h2 c.1 (h.cs.subset (List.mem_map.mpr ⟨c, hc, rfl⟩))
  rw [e] at this
  have := (drSh h.sh).d0.1
  have e0 : ([] : List Int).length = 0 := rfl
  omega
theorem DrMs.wf {ms : List Am} (h : DrMs ms) : WfM ms := by
  refine ⟨⟨abl_nd.sublist h.n, PyProof.Rows.sortedS_of_pairwise _ (abl_pw.sublist h.n)⟩, ?_, fun m hm => (h.m m hm).wf⟩
  have := h.n.length_le
  rw [List.length_map] at this
  exact Nat.lt_of_le_of_lt this (by decide)
theorem hid_ex {F : Addr → Prop} {H H' : Hp} {S : Addr} (f : F S) (x : Ex H H' S) : Same (hid F H) (hid F H') := fun a o e => hid_mk (hid_some e).1 (x a o (hid_some e).2 fun z => (hid_some e).1 (z ▸ f))
theorem sq_ex {K : PySem.W.Frag} {F : Addr → Prop} {H H' : Hp} {S scr : Addr} {xs : List V} (f : F S) (q : SqL K (hid F H) scr xs) (x : Ex H H' S) : SqL K H' scr xs := SqL.keepS q fun o e => (hid_some (hid_ex f x _ _ e)).2
theorem occ_ex {F : Addr → Prop} {H H' : Hp} {S : Addr} (occ : ∀ a, F a → H a ≠ none) (t : SAt H' S) (x : Ex H H' S) : ∀ a, F a → H' a ≠ none := fun a f z => by
  by_cases e : a = S
  · obtain ⟨u, v, eS⟩ := t
    rw [e, eS] at z
    cases z
  · cases h : H a with
    | none => exact occ a f h
    | some o =>
      rw [x a o h e] at z
      cases z
/-- all but these stay -/
def Xx (ls : List Addr) (H H' : Hp) : Prop := ∀ a o, H a = some o → a ∉ ls → H' a = some o
theorem Xx.refl {ls : List Addr} {H : Hp} : Xx ls H H := fun _ _ e _ => e
theorem Xx.trans {ls : List Addr} {H H1 H2 : Hp} (a : Xx ls H H1) (b : Xx ls H1 H2) : Xx ls H H2 := fun x o e n => b x o (a x o e n) n
theorem Xx.same {ls : List Addr} {H H1 : Hp} (m : Same H H1) : Xx ls H H1 := fun x o e _ => m x o e
theorem Xx.ex {ls : List Addr} {H H1 : Hp} {S : Addr} (h : S ∈ ls) (x : Ex H H1 S) : Xx ls H H1 := fun a o e n => x a o e fun z => n (z ▸ h)
theorem Xx.put {ls : List Addr} {H : Hp} {L : Addr} {o : HO} (h : L ∈ ls) : Xx ls H (upd H L o) := fun a x e n => by
  rw [upd_ne (show a ≠ L from fun z => n (z ▸ h))]
  exact e
theorem Xx.hid {F : Addr → Prop} {ls : List Addr} {H H1 : Hp} (h : Xx ls H H1) (f : ∀ l ∈ ls, F l) : Same (hid F H) (hid F H1) := fun a o e => hid_mk (hid_some e).1 (h a o (hid_some e).2 fun z => (hid_some e).1 (f a z))
def spLAr (K : PySem.W.Frag) (C : Addr) : Sp := fun vs H Q _ => ∃ (F : Addr → Prop) (S scr : Addr) (y : V) (ns : List Int) (bs : List Am), vs = [.ref S, .ref scr, y] ∧ F S ∧ (∀ a, F a → H a ≠ none) ∧ SAt H S ∧ SqL K (hid F H) scr (ns.map V.int) ∧ AmsD (hid F H) C y bs ∧ DrMs bs ∧ (∀ a, F a → ∀ o, H a = some o → (∀ r, o ≠ .tup r) ∧ ∀ dx fs, o ≠ .ins C dx fs) ∧
  ∀ H' z ms, Ex H H' S → SAt H' S → AmsD (hid F H') C z ms → DrMs ms → Q z H'
section
variable {P : Program} {w : World} {K : PySem.W.Frag} {mg : Str → Option Value} {base : Heap}
theorem sc_lar : FnScope ["state", "script", "before", "arrays", "name", "pick", "shape", "chunks", "new", "chunk", "k"] ["state", "script", "before"] (defScope sLArrays) := ⟨rfl, rfl, rfl, by decide +kernel, rfl, by decide +kernel, by decide +kernel⟩
theorem ok_lar {f : Addr} {fd : FuncData} {C : Addr} {fD fS fC : Addr} {fdD fdS fdC : FuncData} (F : Fun K "_law_arrays" "_law_arrays" sLArrays f fd) (M : Nm mg) (GD : FnOk P w K mg base CX0 1 fD fdD ["state", "script", "size"] (spDraw K)) (kD : PySem.W.keepIn K (.ref fD) = true) (bD : Binds K fdD ["state", "script", "size"] []) (gD : mg "_law_draw" = some (.ref fD)) (GS : FnOk P w K mg base CX0 3 fS fdS ["state", "script"] (spLSh K C)) (kS : PySem.W.keepIn K (.ref fS) = true) (bS : Binds K fdS ["state", "script"] []) (gS : mg "_law_shape" = some (.ref fS)) (GC : FnOk P w K mg base CX0 1 fC fdC ["shape"] (spLC C)) (kC : PySem.W.keepIn K (.ref fC) = true) (bC : Binds K fdC ["shape"] []) (gC : mg "_law_chunks" = some (.ref fC)) : FnOk P w K mg base CX0 4 f fd ["state", "script", "before"] (spLAr K C) := by
  refine F.ok sc_lar (fun vs H Q E h => ?_) (fun cdv A outer s0 H vs Q E hr h => ?_)
  · obtain ⟨F0, S, scr, y, ns, bs, rfl, fS, occ, hS, sq, hb, db, kF, q⟩ := h
    rfl
  · obtain ⟨F0, S, scr, y, ns, bs, rfl, fS, occ, hS, sq, hb, db, kF, q⟩ := h
    have hu := hu_of hr
    refine ⟨_, (pss_cons (ps_set (i := 3) sc_lar.nd rfl (.inl rfl) pe_dnewK)
      (Evl.pss_cut (ps_for PassesOwn.never rfl (pi_list (pe_lst (pa_cons pe_str (pa_cons pe_str (pa_cons pe_str pa_nil))))) (pg_name (i := 4) sc_lar.nd rfl (.inl rfl)) (pss_cons (ps_set (i := 5) sc_lar.nd rfl (.inl rfl) (pe_call GD (hr.mono (j := 1) (by decide)) (by rfl) gD kD bD .nil pass0 (pa_cons (pv 0) (pa_cons (pv 1) (pa_cons pe_int pa_nil)))))
      (pss_one (ps_if (pt_cmpR op_gt (pv 5) pe_int (nomark _)) (Evl.pss_cut (ps_if (PW.pt (pw_and (pt_cmp (pc_din hu (pv 4) (pv 2))) (pw_and1 (pt_cmpR op_gt (pv 5) pe_int (nomark _))))) (pss_one (ps_asg (pe_dget hu (pv 2) (pv 4) (fun _ _ => rfl)) (pg_tup (by rfl) (pgs_cons (pg_name (i := 6) sc_lar.nd rfl (.inl rfl)) (pgs_cons (pg_name (i := 7) sc_lar.nd rfl (.inl rfl)) pgs_nil))))) (pss_cons (ps_set (i := 6) sc_lar.nd rfl (.inl rfl) (pe_call GS (hr.mono (j := 3) (by decide)) (by rfl) gS kS bS .nil pass0 (pa_cons (pv 0) (pa_cons (pv 1) pa_nil))))
      (pss_one (ps_set (i := 7) sc_lar.nd rfl (.inl rfl) pe_dnewT))))
      (pss_cons (ps_set (i := 8) sc_lar.nd rfl (.inl rfl) pe_dnewT)
      (Evl.pss_cut (ps_for PassesOwn.never rfl (pi_list (pe_slice sl_list (pe_call GC (hr.mono (j := 1) (by decide)) (by rfl) gC kC bC .nil pass0 (pa_cons (pv 6) pa_nil)) po_none (po_some pe_int))) (pg_name (i := 9) sc_lar.nd rfl (.inl rfl)) (pss_one (ps_if (PW.pt (pw_and (pt_cmp (pc_din hu (pv 9) (pv 7))) (pw_and1 (pt_cmpR op_gt (pe_call GD (hr.mono (j := 1) (by decide)) (by rfl) gD kD bD .nil pass0 (pa_cons (pv 0) (pa_cons (pv 1) (pa_cons pe_int pa_nil)))) pe_int (nomark _))))) (pss_one (ps_dput hu (pv 8) (pv 9) (pe_dget hu (pv 7) (pv 9) (fun _ _ => rfl)) rfl)) (pss_one (ps_if (pt_cmpR op_eq (pe_call GD (hr.mono (j := 1) (by decide)) (by rfl) gD kD bD .nil pass0 (pa_cons (pv 0) (pa_cons (pv 1) (pa_cons pe_int pa_nil)))) pe_int (nomark _)) (pss_one (ps_dput hu (pv 8) (pv 9) (pe_lc (own := [("k", 10)]) (g := (gName 10)) (tt := tYes) rfl sc_lar.nd (pi_range1 (by rfl) M.range (pa_cons (pe_call GD (hr.mono (j := 1) (by decide)) (by rfl) gD kD bD .nil pass0 (pa_cons (pv 0) (pa_cons (pv 1) (pa_cons pe_int pa_nil)))) pa_nil)) (blkOk_by (N := ["state", "script", "before", "arrays", "name", "pick", "shape", "chunks", "new", "chunk", "k"]) (sc := defScope sLArrays) (by decide +kernel)) (fun _ _ _ _ _ => (pg_name (i := 10) sc_lar.nd rfl (Or.inl rfl))) (fun _ _ _ _ _ => pts_nil) (fun _ _ _ _ _ => (pe_call GD (hr.mono (j := 1) (by decide)) (by rfl) gD kD bD .nil pass0 (pa_cons (pv 0) (pa_cons (pv 1) (pa_cons pe_int pa_nil)))))) rfl)) pss_nil)))))
      (pss_one (ps_dput hu (pv 3) (pv 4) (pe_tup (pa_cons (pv 6) (pa_cons (pv 8) pa_nil))) rfl))))) pss_nil))))
      (pss_one (ps_ret (pv 3))))), ?_⟩
    obtain ⟨yb, xb, rfl, eyb, alb⟩ := id hb
    refine fun p np => ?_
    have m0 := same_new (o := .dK []) np
    obtain ⟨F1, eF1⟩ : ∃ F1 : Addr → Prop, F1 = fun a => F0 a ∨ a = p := ⟨_, rfl⟩
    have nF1 : ∀ {a}, F1 a → F0 a ∨ a = p := fun f => by rw [eF1] at f; exact f
    have mkF1 : ∀ {a}, F0 a ∨ a = p → F1 a := fun f => by rw [eF1]; exact f
    have pF0 : ¬ F0 p := fun f => occ _ f np
    have fS1 : F1 S := mkF1 (.inl fS)
    have npS : p ≠ S := fun z => pF0 (z ▸ fS)
    obtain ⟨H1, eH1⟩ : ∃ H1, H1 = upd H p (.dK []) := ⟨_, rfl⟩
    have e1p : H1 p = some (.dK []) := by rw [eH1, upd_same]
    rw [← eH1] at m0 ⊢
    have occ1 : ∀ a, F1 a → H1 a ≠ none := fun a f => by
      rcases nF1 f with f | f
      · intro z
        exact occ a f (m0.free z)
      · rw [f, e1p]
        exact fun z => nomatch z
    have h01 : Same (hid F0 H) (hid F1 H1) := fun a o e => by
      obtain ⟨f, e⟩ := hid_some e
      refine hid_mk (fun z => ?_) (m0 _ _ e)
      rcases nF1 z with z | z
      · exact f z
      · rw [z, np] at e; cases e
    have S1 : SAt H1 S := by
      obtain ⟨u, v, e⟩ := hS
      exact ⟨u, v, m0 _ _ e⟩
    have sq1 := SqL.keepS sq fun o e => h01 _ _ e
    have hb1 := hb.same h01
    have sqOf : ∀ {H' : Hp}, Same (hid F1 H1) (hid F1 H') → SqL K H' scr (ns.map V.int) := fun m => SqL.keepS sq1 fun o e => (hid_some (m _ _ e)).2
    refine ⟨fun σ H2 => ∃ y4 y5 y6 y7 y8 y9, σ = [some (.ref S), some (.ref scr), some (.ref yb), some (.ref p), y4, y5, y6, y7, y8, y9, none] ∧ Xx [S, p] H1 H2 ∧ SAt H2 S ∧ ∃ ms xs, H2 p = some (.dK ((ms.map fun r : Am => (Sum.inr r.n : Key)).zip xs)) ∧ All (AmD (hid F1 H2) C) xs ms ∧ (ms.map Am.n).Sublist (["a", "b", "long"] : List Str) ∧ ∀ m ∈ ms, DrM m, ?_, ?_⟩
    · refine ⟨(by show 3 ≤ sizeLine; decide), fun l0 nl0 => ?_⟩
      obtain ⟨Hb, eHb⟩ : ∃ Hb, Hb = upd H1 l0 (.lst [.str "a", .str "b", .str "long"]) := ⟨_, rfl⟩
      have mb : Same H1 Hb := by rw [eHb]; exact same_new nl0
      have el0 : Hb l0 = some (.lst [.str "a", .str "b", .str "long"]) := by rw [eHb, upd_same]
      rw [← eHb]
      have fl0 : ¬ F1 l0 := fun f => occ1 _ f nl0
      have l0S : l0 ∉ [S, p] := by
        intro z
        rcases List.mem_cons.mp z with z | z
        · exact fl0 (z ▸ fS1)
        · exact fl0 (mkF1 (.inr (List.mem_singleton.mp z)))
      have fSp : ∀ l ∈ [S, p], F1 l := fun l hl => by
        rcases List.mem_cons.mp hl with z | z
        · rw [z]; exact fS1
        · exact mkF1 (.inr (List.mem_singleton.mp z))
      have mb1 : Same (hid F1 H1) (hid F1 Hb) := hid_of_same mb
      refine ⟨l0, rfl, ⟨_, .inl (.inl el0)⟩, for_it (walk_list (xs := [.str "a", .str "b", .str "long"])) (fun i σ H2 => ∃ y4 y5 y6 y7 y8 y9, σ = [some (.ref S), some (.ref scr), some (.ref yb), some (.ref p), y4, y5, y6, y7, y8, y9, none] ∧ Xx [S, p] Hb H2 ∧ SAt H2 S ∧ ∃ ms xs, H2 p = some (.dK ((ms.map fun r : Am => (Sum.inr r.n : Key)).zip xs)) ∧ All (AmD (hid F1 H2) C) xs ms ∧ (ms.map Am.n).Sublist ((["a", "b", "long"] : List Str).take i) ∧ ∀ m ∈ ms, DrM m) ?_ ?_ ?_ ?_⟩
      · obtain ⟨u, v, e⟩ := S1
        exact ⟨none, none, none, none, none, none, rfl, Xx.refl, ⟨u, v, mb _ _ e⟩, [], [], mb _ _ e1p, All.nil, List.Sublist.slnil, fun m h => by cases h⟩
      · rintro i σ H2 hi ⟨y4, y5, y6, y7, y8, y9, rfl, x2, _⟩
        exact .inl (.inl (x2 _ _ el0 l0S))
      · rintro i x σ Hx H2 hi ⟨y4, y5, y6, y7, y8, y9, rfl, x2, t2, ms, xs, e2p, al, sub, dr⟩ ⟨rfl, hx⟩
        have hi3 : i < (["a", "b", "long"] : List Str).length := hi
        obtain ⟨n, hn⟩ : ∃ n, (["a", "b", "long"] : List Str)[i]? = some n := ⟨_, List.getElem?_eq_getElem hi3⟩
        have ex : x = .str n := by
          have e0 : ([.str "a", .str "b", .str "long"] : List V) = (["a", "b", "long"] : List Str).map V.str := rfl
          rw [e0, List.getElem?_map, hn] at hx
          exact (Option.some.inj hx).symm
        subst ex
        have et : (["a", "b", "long"] : List Str).take (i + 1) = (["a", "b", "long"] : List Str).take i ++ [n] := by rw [List.take_add_one, hn]; rfl
        have h12 : Same (hid F1 H1) (hid F1 H2) := mb1.trans (x2.hid fSp)
        refine ⟨_, rfl, _, rfl, S, scr, 4, ns, rfl, by decide, by decide, t2, sqOf h12, fun H3 v k3 t3 v0 v1 => ?_⟩
        have x3 : Xx [S, p] Hb H3 := x2.trans (Xx.ex List.mem_cons_self k3)
        have e3p := k3 _ _ e2p npS
        have h23 : Same (hid F1 H2) (hid F1 H3) := hid_ex fS1 k3
        have h13 := h12.trans h23
        refine ⟨_, rfl, _, _, rfl, rfl, _, rfl, ?_⟩
        by_cases hv : 0 < v
        · refine iteB (decide_eq_true hv) ?_
          refine ⟨fun σ H4 => ∃ u cv ds ts cs0, σ = [some (.ref S), some (.ref scr), some (.ref yb), some (.ref p), some (.str n), some (.int v), some u, some cv, y8, y9, none] ∧ Xx [S, p] Hb H4 ∧ SAt H4 S ∧ H4 p = some (.dK ((ms.map fun r : Am => (Sum.inr r.n : Key)).zip xs)) ∧ All (AmD (hid F1 H4) C) xs ms ∧ ShAt (hid F1 H4) C u ds ts ∧ DrSh ds ts ∧ MsD (hid F1 H4) cv cs0 ∧ AscL (cs0.map (·.1)) ∧ (∀ c ∈ cs0, c.2.length ≤ 4), ?_, ?_⟩
          · have els : ∀ Q' : St → Hp → Prop, (∀ σ H4, (∃ u cv ds ts cs0, σ = [some (.ref S), some (.ref scr), some (.ref yb), some (.ref p), some (.str n), some (.int v), some u, some cv, y8, y9, none] ∧ Xx [S, p] Hb H4 ∧ SAt H4 S ∧ H4 p = some (.dK ((ms.map fun r : Am => (Sum.inr r.n : Key)).zip xs)) ∧ All (AmD (hid F1 H4) C) xs ms ∧ ShAt (hid F1 H4) C u ds ts ∧ DrSh ds ts ∧ MsD (hid F1 H4) cv cs0 ∧ AscL (cs0.map (·.1)) ∧ (∀ c ∈ cs0, c.2.length ≤ 4)) → Q' σ H4) → ∀ (H4 : Hp) u ds ts, Ex H3 H4 S → SAt H4 S → ShAt H4 C u ds ts → DrSh ds ts → ∀ c0, H4 c0 = none → Q' [some (.ref S), some (.ref scr), some (.ref yb), some (.ref p), some (.str n), some (.int v), some u, some (.ref c0), y8, y9, none] (upd H4 c0 (.dT [])) := fun Q' k H4 u ds ts k4 t4 sh4 dr4 c0 nc0 => by
              have m5 := same_new (o := .dT []) nc0
              have h34 : Same (hid F1 H3) (hid F1 H4) := hid_ex fS1 k4
              have kT : ∀ {a r}, H4 a = some (.tup r) → ¬ F1 a := fun {a r} e f => by
                rcases nF1 f with g | g
                · by_cases z : a = S
                  · obtain ⟨u', v', eS⟩ := t4
                    rw [z, eS] at e; cases e
                  · cases eo : H a with
                    | none => exact occ a g eo
                    | some o =>
                      have e5 := k4 a o (k3 a o (x2 a o (mb a o (m0 a o eo)) (by
                        intro y
                        rcases List.mem_cons.mp y with y | y
                        · exact z y
                        · exact pF0 (List.mem_singleton.mp y ▸ g))) z) z
                      rw [e] at e5
                      cases e5
                      exact (kF a g _ eo).1 _ rfl
                · rw [g, k4 _ _ e3p npS] at e; cases e
              have kI' : ∀ {a dx fs}, H4 a = some (.ins C dx fs) → ¬ F1 a := fun {a dx fs} e f => by
                rcases nF1 f with g | g
                · by_cases z : a = S
                  · obtain ⟨u', v', eS⟩ := t4
                    rw [z, eS] at e; cases e
                  · cases eo : H a with
                    | none => exact occ a g eo
                    | some o =>
                      have e5 := k4 a o (k3 a o (x2 a o (mb a o (m0 a o eo)) (by
                        intro y
                        rcases List.mem_cons.mp y with y | y
                        · exact z y
                        · exact pF0 (List.mem_singleton.mp y ▸ g))) z) z
                      rw [e] at e5
                      cases e5
                      exact (kF a g _ eo).2 _ _ rfl
                · rw [g, k4 _ _ e3p npS] at e; cases e
              have shF : ShAt (hid F1 H4) C u ds ts := by
                obtain ⟨s1, s2, s3, s4, s5, s6, ⟨t1, t2', t3', t4', t5⟩, ⟨t6, t7, t8, t9, t10⟩⟩ := sh4
                exact ⟨s1, s2, s3, s4, s5, hid_mk (kI' s6) s6, ⟨t1, t2', t3', hid_mk (kT t4') t4', t5.imp fun y c ⟨g, e1, e2⟩ => ⟨g, e1, hid_mk (kT e2) e2⟩⟩, ⟨t6, t7, t8, hid_mk (kT t9) t9, t10.imp fun y c ⟨g, e1, e2⟩ => ⟨g, e1, hid_mk (kT e2) e2⟩⟩⟩
              have fc0 : ¬ F1 c0 := fun f => by
                have := occ_ex (F := F1) (fun a f z => occ1 a f (by
                  cases eo : H1 a with
                  | none => rfl
                  | some o => exact absurd eo (by
                      intro eo
                      rcases nF1 f with g | g
                      · by_cases y : a = S
                        · obtain ⟨u', v', eS⟩ := t3
                          rw [y, eS] at z; cases z
                        · have := k3 a o (x2 a o (mb a o eo) (by
                            intro w
                            rcases List.mem_cons.mp w with w | w
                            · exact y w
                            · exact pF0 (List.mem_singleton.mp w ▸ g))) y
                          rw [this] at z; cases z
                      · rw [g, e3p] at z; cases z))) t4 k4 c0 f
                exact this nc0
              refine k _ _ ⟨u, .ref c0, ds, ts, [], rfl, (x3.trans (Xx.ex List.mem_cons_self k4)).trans (Xx.same m5), ?_, m5 _ _ (k4 _ _ e3p npS), al.imp fun z m hz => hz.same (h23.trans (h34.trans (hid_of_same m5))), shF.same (hid_of_same m5), dr4, ⟨c0, [], rfl, hid_mk fc0 upd_same, All.nil⟩, List.Pairwise.nil, fun c hc => by cases hc⟩
              obtain ⟨u', v', e⟩ := t4
              exact ⟨u', v', m5 _ _ e⟩
            obtain ⟨hb3, hfl⟩ : AmsD (hid F1 H3) C (.ref yb) bs ∧ True := ⟨hb1.same h13, trivial⟩
            by_cases hm : n ∈ bs.map Am.n
            · obtain ⟨m, mm, rfl⟩ := List.mem_map.mp hm
              obtain ⟨w0, g, tb, u, w1, ew, etb, hsh, hcs⟩ := DkM.get hb3 db.wf.nd mm
              subst ew
              have g := dget_same g (hid_same _ _)
              have etb := (hid_some etb).2
              have dm := db.m m mm
              refine ⟨_, rfl, _, rfl, yb, _, rfl, g, _, rfl, iteT ?_⟩
              refine ⟨_, rfl, _, _, rfl, rfl, _, rfl, ?_⟩
              by_cases h1 : 1 < v
              · refine iteB (decide_eq_true h1) ?_
                exact ⟨_, rfl, _, rfl, yb, _, rfl, g, tb, _, rfl, SqT.of etb, rfl, _, _, rfl, _, _, rfl, rfl, u, w1, m.ds, m.ts, m.cs, rfl, x3, t3, e3p, al.imp (fun z m hz => hz.same h23), hsh, dm.sh, hcs, dm.wf.1, dm.o⟩
              · refine iteBF (decide_eq_false h1) ?_
                exact ⟨_, rfl, _, rfl, S, scr, ns, rfl, t3, fun H' y => sqOf (h13.trans (hid_ex fS1 y)), fun H4 u ds ts k4 t4 sh4 dr4 c0 nc0 => els _ (fun _ _ h => h) H4 u ds ts k4 t4 sh4 dr4 c0 nc0⟩
            · have g := dget_same (DkM.no (k := Sum.inr n) hb3 (fun z => by
                obtain ⟨m, mm, e⟩ := List.mem_map.mp z
                exact hm (List.mem_map.mpr ⟨m, mm, Sum.inr.inj e⟩))) (hid_same _ _)
              refine ⟨_, rfl, _, rfl, yb, _, rfl, g, _, rfl, iteF ?_⟩
              exact ⟨_, rfl, _, rfl, S, scr, ns, rfl, t3, fun H' y => sqOf (h13.trans (hid_ex fS1 y)), fun H4 u ds ts k4 t4 sh4 dr4 c0 nc0 => els _ (fun _ _ h => h) H4 u ds ts k4 t4 sh4 dr4 c0 nc0⟩
          · rintro σ H4 ⟨u, cv, ds, ts, cs0, rfl, x4, t4, e4p, al4, sh4, dr4, cv4, asc0, len0⟩
            obtain ⟨cva, ecv⟩ := cv4.ref
            subst ecv
            have h14 : Same (hid F1 H1) (hid F1 H4) := mb1.trans (x4.hid fSp)
            have occ4 : ∀ a, F1 a → H4 a ≠ none := fun a f z => by
              rcases nF1 f with g | g
              · by_cases y : a = S
                · obtain ⟨u', v', eS⟩ := t4
                  rw [y, eS] at z; cases z
                · cases eo : H1 a with
                  | none => exact occ1 a f eo
                  | some o =>
                    have := x4 a o (mb a o eo) (by
                      intro w
                      rcases List.mem_cons.mp w with w | w
                      · exact y w
                      · exact pF0 (List.mem_singleton.mp w ▸ g))
                    rw [this] at z; cases z
              · rw [g, e4p] at z; cases z
            refine fun N nN => ?_
            have fN : ¬ F1 N := fun f => occ4 _ f nN
            have nNS : N ≠ S := fun z => fN (z ▸ fS1)
            have m45 := same_new (o := .dT []) nN
            obtain ⟨H5, eH5⟩ : ∃ H5, H5 = upd H4 N (.dT []) := ⟨_, rfl⟩
            have e5N : H5 N = some (.dT []) := by rw [eH5, upd_same]
            rw [← eH5] at m45 ⊢
            obtain ⟨F2, eF2⟩ : ∃ F2 : Addr → Prop, F2 = fun a => F1 a ∨ a = N := ⟨_, rfl⟩
            have nF2 : ∀ {a}, F2 a → F1 a ∨ a = N := fun f => by rw [eF2] at f; exact f
            have mkF2 : ∀ {a}, F1 a ∨ a = N → F2 a := fun f => by rw [eF2]; exact f
            have fSN : ∀ l ∈ [S, N], F2 l := fun l hl => by
              rcases List.mem_cons.mp hl with z | z
              · rw [z]; exact mkF2 (.inl fS1)
              · exact mkF2 (.inr (List.mem_singleton.mp z))
            refine ⟨fun σ H7 => ∃ y9 cs zs, σ = [some (.ref S), some (.ref scr), some (.ref yb), some (.ref p), some (.str n), some (.int v), some u, some (.ref cva), some (.ref N), y9, none] ∧ Xx [S, p] Hb H7 ∧ SAt H7 S ∧ H7 p = some (.dK ((ms.map fun r : Am => (Sum.inr r.n : Key)).zip xs)) ∧ Same (hid F1 H4) (hid F1 H7) ∧ H7 N = some (.dT ((cs.map fun c : List Int × List Int => kI c.1).zip zs)) ∧ All (LsAt (hid F1 H7)) zs cs ∧ (cs.map (·.1)).Sublist (rowsF ds) ∧ cs.length ≤ 6 ∧ (∀ c ∈ cs, c.2.length ≤ 4), ?_, ?_⟩
            · have sh5 : ShAt H5 C u ds ts := (sh4.same (hid_same _ _)).same m45
              refine ⟨_, rfl, u, ds, ts, rfl, sh5, dr4.d, (drSh_len dr4).1, fun H6 pl xl m6 e6 al6 => ⟨6, rfl, pl, _, rfl, .inl (.inl e6), fun q6 nq6 => ?_⟩⟩
              rw [show cutV xl none (some 6) = xl.take 6 from cut0 6]
              obtain ⟨Hc, eHc⟩ : ∃ Hc, Hc = upd H6 q6 (.lst (xl.take 6)) := ⟨_, rfl⟩
              have m6c : Same H6 Hc := by rw [eHc]; exact same_new nq6
              have ecq : Hc q6 = some (.lst (xl.take 6)) := by rw [eHc, upd_same]
              rw [← eHc]
              have m4c : Same H4 Hc := m45.trans (m6.trans m6c)
              have ecN : Hc N = some (.dT []) := m6c _ _ (m6 _ _ e5N)
              have nq4 : H4 q6 = none := m45.free (m6.free nq6)
              have q6S : q6 ∉ [S, N] := by
                intro z
                rcases List.mem_cons.mp z with z | z
                · exact occ4 S fS1 (z ▸ nq4)
                · rw [List.mem_singleton.mp z, m6 _ _ e5N] at nq6; cases nq6
              have h4c : Same (hid F1 H4) (hid F2 Hc) := fun a o e => by
                obtain ⟨f, e⟩ := hid_some e
                refine hid_mk (fun z => ?_) (m4c _ _ e)
                rcases nF2 z with z | z
                · exact f z
                · rw [z, nN] at e; cases e
              have tc : SAt Hc S := by
                obtain ⟨u', v', e⟩ := t4
                exact ⟨u', v', m4c _ _ e⟩
              have fin : ∀ (H7 : Hp), Xx [S, N] Hc H7 → Same (hid F1 H4) (hid F1 H7) := fun H7 x7 => h4c.trans ((x7.hid fSN).trans (hid_le fun a f => mkF2 (.inl f)))
              refine ⟨q6, rfl, ⟨_, .inl (.inl ecq)⟩, for_it (walk_list (xs := xl.take 6)) (fun j σ H7 => ∃ y9, σ = [some (.ref S), some (.ref scr), some (.ref yb), some (.ref p), some (.str n), some (.int v), some u, some (.ref cva), some (.ref N), y9, none] ∧ Xx [S, N] Hc H7 ∧ SAt H7 S ∧ ∃ cs zs, H7 N = some (.dT ((cs.map fun c : List Int × List Int => kI c.1).zip zs)) ∧ All (LsAt (hid F1 H7)) zs cs ∧ (cs.map (·.1)).Sublist (((rowsF ds).take 6).take j) ∧ ∀ c ∈ cs, c.2.length ≤ 4) ?_ ?_ ?_ ?_⟩
              · exact ⟨y9, rfl, Xx.refl, tc, [], [], ecN, All.nil, List.Sublist.slnil, fun c h => by cases h⟩
              · rintro j σ H7 hj ⟨y9, rfl, x7, _⟩
                exact .inl (.inl (x7 _ _ ecq q6S))
              · rintro j x σ Hx H7 hj ⟨y9, rfl, x7, t7, cs, zs, e7N, al7, sub7, len7⟩ ⟨rfl, hx⟩
                have lj : j < xl.length ∧ j < 6 := by
                  rw [List.length_take] at hj
                  omega
                have lr := al6.1
                have hxl : xl[j]? = some x := by rwa [List.getElem?_take_of_lt lj.2] at hx
                obtain ⟨b, rfl, hb6⟩ := al6.at (i := j) (by omega) hxl
                generalize hr0 : (rowsF ds)[j]'(by omega) = r at hb6
                have er : (rowsF ds)[j]? = some r := by rw [List.getElem?_eq_getElem (by omega), hr0]
                have ebc := m6c _ _ hb6
                have nbS : b ≠ S := fun z => by
                  obtain ⟨u', v', eS⟩ := tc
                  rw [z, eS] at ebc; cases ebc
                have nbN : b ≠ N := fun z => by rw [z, ecN] at ebc; cases ebc
                have eb7 := x7 _ _ ebc (by
                  intro z
                  rcases List.mem_cons.mp z with z | z
                  · exact nbS z
                  · exact nbN (List.mem_singleton.mp z))
                have h47 := fin H7 x7
                have h17 := h14.trans h47
                have cv7 : MsD (hid F2 H7) (.ref cva) cs0 := cv4.same (h4c.trans (x7.hid fSN))
                have occ7 : ∀ a, F1 a → H7 a ≠ none := fun a f => by
                  by_cases y : a = S
                  · obtain ⟨u', v', eS⟩ := t7
                    rw [y, eS]
                    exact fun z => nomatch z
                  · cases eo : H4 a with
                    | none => exact absurd eo (occ4 a f)
                    | some o =>
                      rw [x7 a o (m4c _ _ eo) (by
                        intro z
                        rcases List.mem_cons.mp z with z | z
                        · exact y z
                        · exact fN (List.mem_singleton.mp z ▸ f))]
                      exact fun z => nomatch z
                have lz := al7.1
                have lc6 := sub7.length_le
                rw [List.length_map, List.length_take, List.length_take] at lc6
                have et6 : ((rowsF ds).take 6).take (j + 1) = ((rowsF ds).take 6).take j ++ [r] := by
                  rw [List.take_add_one, List.getElem?_take_of_lt lj.2, er]
                  rfl
                have nkr : kI r ∉ cs.map fun c : List Int × List Int => kI c.1 := fun z => by
                  obtain ⟨c, hc, e⟩ := List.mem_map.mp z
                  have h1 : r ∈ ((rowsF ds).take 6).take j := by
                    rw [← kI_inj e]
                    exact sub7.subset (List.mem_map.mpr ⟨c, hc, rfl⟩)
                  have h2 : (((rowsF ds).take 6).take (j + 1)).Nodup := ((rows_asc ds).1.imp fun {a b} z y => by
                    subst y
                    rw [lexL_lt] at z
                    exact List.lt_irrefl _ (of_decide_eq_true z)).sublist ((List.take_sublist _ _).trans (List.take_sublist _ _))
                  rw [et6, List.nodup_append] at h2
                  exact h2.2.2 r h1 r (List.mem_singleton.mpr rfl) rfl
                by_cases hr : r ∈ cs0.map (·.1)
                · obtain ⟨c, hc, ecr⟩ := List.mem_map.mp hr
                  obtain ⟨z, g, l, rfl, el⟩ := DtM.get (b := b) cv7 (hid_same _ _) (asc_ndm asc0) hc (by rw [kI_v, ecr]; exact eb7)
                  refine ⟨_, rfl, _, rfl, cva, _, rfl, g, _, rfl, iteT ?_⟩
                  refine ⟨_, rfl, _, rfl, S, scr, 3, ns, rfl, by decide, by decide, t7, sqOf h17, fun H8 w k8 t8 w0 w1 => ⟨_, _, rfl, rfl, _, rfl, ?_⟩⟩
                  by_cases hw : 0 < w
                  · refine iteB (decide_eq_true hw) ?_
                    have hF2 : Same (hid F2 H7) (hid F2 H8) := hid_ex (mkF2 (.inl fS1)) k8
                    obtain ⟨z8, g8, l8, rfl, el8⟩ := DtM.get (b := b) (cv7.same hF2) (hid_same _ _) (asc_ndm asc0) hc (by rw [kI_v, ecr]; exact k8 _ _ eb7 nbS)
                    have e8N := k8 _ _ e7N nNS
                    refine ⟨_, rfl, _, rfl, cva, .ref l8, rfl, g8, _, rfl, _, rfl, N, _, rfl, DPut.t (k := kI r) e8N (by rw [kI_v]; exact k8 _ _ eb7 nbS) (by rw [zip_len lz]; exact small1000 (by omega)), ?_⟩
                    rw [zip_push (key := fun c : List Int × List Int => kI c.1) (a := (r, c.2)) lz nkr]
                    have hF : Same (hid F1 H7) (hid F1 H8) := hid_ex fS1 k8
                    have kN : ∀ {a x}, hid F1 H8 a = some x → (∀ k, x ≠ .dT k) → hid F1 (upd H8 N (.dT (((cs ++ [(r, c.2)]).map fun c : List Int × List Int => kI c.1).zip (zs ++ [.ref l8])))) a = some x := fun {a x} e nk => hid_mk (hid_some e).1 (by
                      rw [upd_ne (ne_of (hid_some e).2 e8N (nk _))]
                      exact (hid_some e).2)
                    refine ⟨some (.ref b), rfl, (x7.trans (Xx.ex List.mem_cons_self k8)).trans (Xx.put (List.mem_cons_of_mem _ List.mem_cons_self)), ?_, cs ++ [(r, c.2)], zs ++ [.ref l8], upd_same, All.push (al7.imp fun z c ⟨a, e1, e2⟩ => ⟨a, e1, kN (hF _ _ e2) (fun _ z => nomatch z)⟩) ⟨l8, rfl, kN (hid_le (fun a f => mkF2 (.inl f)) _ _ el8) (fun _ z => nomatch z)⟩, ?_, fun c' hc' => ?_⟩
                    · obtain ⟨u', v', e⟩ := t8
                      exact ⟨u', v', by rw [upd_ne nNS.symm]; exact e⟩
                    · rw [List.map_append, et6]
                      exact sub7.append (List.Sublist.refl _)
                    · rcases List.mem_append.mp hc' with z | z
                      · exact len7 c' z
                      · rw [List.mem_singleton.mp z]
                        exact len0 c hc
                  · refine iteBF (decide_eq_false hw) ?_
                    refine ⟨_, rfl, _, rfl, S, scr, 2, ns, rfl, by decide, by decide, t8, sqOf (h17.trans (hid_ex fS1 k8)), fun H9 w2 k9 t9 a0 a1 => ⟨rfl, _, rfl, ?_⟩⟩
                    have k79 : Ex H7 H9 S := Ex.trans k8 k9
                    have e9N := k79 _ _ e7N nNS
                    by_cases h2 : w2 = 1
                    · refine iteB (decide_eq_true (by rw [h2])) ?_
                      refine ⟨_, rfl, _, rfl, S, scr, 5, ns, rfl, by decide, by decide, t9, sqOf (h17.trans (hid_ex fS1 k79)), fun Ha w5 ka ta b0 b1 => ⟨w5, rfl, by omega, by omega, fun L nL => ?_⟩⟩
                      have k7a : Ex H7 Ha S := Ex.trans k79 ka
                      have nLS : L ≠ S := fun z => by
                        obtain ⟨u', v', e⟩ := ta
                        rw [z, e] at nL; cases nL
                      have eaN := k7a _ _ e7N nNS
                      refine lc_range (lo := 0) (n := w5.toNat) (fun i Hd => Ex Ha Hd S ∧ SAt Hd S ∧ ∃ os : List Int, os.length = i ∧ Hd L = some (.lst (os.map V.int))) ?_ ?_ ?_
                      · obtain ⟨u', v', e⟩ := ta
                        exact ⟨fun a o e _ => same_new nL a o e, ⟨u', v', same_new nL _ _ e⟩, [], rfl, upd_same⟩
                      · rintro i Hd hi ⟨kd, td, os, lo, eL⟩
                        refine ⟨rfl, ?_⟩
                        dsimp only [tYes]
                        rw [if_pos rfl]
                        refine ⟨_, rfl, _, rfl, S, scr, 256, ns, rfl, by decide, by decide, td, sqOf (h17.trans (hid_ex fS1 (Ex.trans k7a kd))), fun He ve ke te c0 c1 => ?_⟩
                        refine ⟨_, ke _ _ eL nLS, small1000 (by rw [List.length_map]; omega), fun a o e na => ?_, ?_, os ++ [ve], by rw [List.length_append, lo]; rfl, by rw [upd_same, List.map_append]; rfl⟩
                        · rw [upd_ne (ne_of_none e nL)]
                          exact ke _ _ (kd _ _ e na) na
                        · obtain ⟨u', v', e⟩ := te
                          exact ⟨u', v', by rw [upd_ne nLS.symm]; exact e⟩
                      · rintro Hd ⟨kd, td, os, lo, eL⟩
                        have k7d : Ex H7 Hd S := Ex.trans k7a kd
                        have edN := kd _ _ eaN nNS
                        have edb := k7d _ _ eb7 nbS
                        refine ⟨_, rfl, _, rfl, N, _, rfl, DPut.t (k := kI r) edN (by rw [kI_v]; exact edb) (by rw [zip_len lz]; exact small1000 (by omega)), ?_⟩
                        rw [zip_push (key := fun c : List Int × List Int => kI c.1) (a := (r, os)) lz nkr]
                        have hF : Same (hid F1 H7) (hid F1 Hd) := hid_ex fS1 k7d
                        have kN : ∀ {a x}, hid F1 Hd a = some x → (∀ k, x ≠ .dT k) → hid F1 (upd Hd N (.dT (((cs ++ [(r, os)]).map fun c : List Int × List Int => kI c.1).zip (zs ++ [.ref L])))) a = some x := fun {a x} e nk => hid_mk (hid_some e).1 (by
                          rw [upd_ne (ne_of (hid_some e).2 edN (nk _))]
                          exact (hid_some e).2)
                        have fL : ¬ F1 L := fun f => occ_ex (F := F1) occ7 ta k7a L f nL
                        refine ⟨some (.ref b), rfl, (x7.trans (Xx.ex List.mem_cons_self k7d)).trans (Xx.put (List.mem_cons_of_mem _ List.mem_cons_self)), ?_, cs ++ [(r, os)], zs ++ [.ref L], upd_same, All.push (al7.imp fun z c ⟨a, e1, e2⟩ => ⟨a, e1, kN (hF _ _ e2) (fun _ z => nomatch z)⟩) ⟨L, rfl, kN (hid_mk fL eL) (fun _ z => nomatch z)⟩, ?_, fun c hc => ?_⟩
                        · obtain ⟨u', v', e⟩ := td
                          exact ⟨u', v', by rw [upd_ne nNS.symm]; exact e⟩
                        · rw [List.map_append, et6]
                          exact sub7.append (List.Sublist.refl _)
                        · rcases List.mem_append.mp hc with z | z
                          · exact len7 c z
                          · rw [List.mem_singleton.mp z]
                            show os.length ≤ 4
                            omega
                    · refine iteBF (decide_eq_false (fun z => h2 (V.int.inj z))) ⟨some (.ref b), rfl, x7.trans (Xx.ex List.mem_cons_self k79), t9, cs, zs, e9N, al7.imp (fun z c h => h.same (hid_ex fS1 k79)), ?_, len7⟩
                      rw [et6]
                      exact sub7.trans (List.sublist_append_left _ _)
                · have g := DtM.no (b := b) (k := kI r) cv7 (hid_same _ _) (fun z => by
                    obtain ⟨c, hc, e⟩ := List.mem_map.mp z
                    exact hr (List.mem_map.mpr ⟨c, hc, kI_inj e⟩)) (by rw [kI_v]; exact eb7)
                  refine ⟨_, rfl, _, rfl, cva, _, rfl, g, _, rfl, iteF ?_⟩
                  obtain ⟨H8, k8, t8⟩ : ∃ H8, Ex H7 H8 S ∧ SAt H8 S ∧ H8 = H7 := ⟨H7, fun _ _ e _ => e, t7, rfl⟩
                  obtain ⟨t8, eH8⟩ := t8
                  rw [← eH8]
                  refine ⟨_, rfl, _, rfl, S, scr, 2, ns, rfl, by decide, by decide, t8, sqOf (h17.trans (hid_ex fS1 k8)), fun H9 w2 k9 t9 a0 a1 => ⟨rfl, _, rfl, ?_⟩⟩
                  have k79 : Ex H7 H9 S := Ex.trans k8 k9
                  have e9N := k79 _ _ e7N nNS
                  by_cases h2 : w2 = 1
                  · refine iteB (decide_eq_true (by rw [h2])) ?_
                    refine ⟨_, rfl, _, rfl, S, scr, 5, ns, rfl, by decide, by decide, t9, sqOf (h17.trans (hid_ex fS1 k79)), fun Ha w5 ka ta b0 b1 => ⟨w5, rfl, by omega, by omega, fun L nL => ?_⟩⟩
                    have k7a : Ex H7 Ha S := Ex.trans k79 ka
                    have nLS : L ≠ S := fun z => by
                      obtain ⟨u', v', e⟩ := ta
                      rw [z, e] at nL; cases nL
                    have eaN := k7a _ _ e7N nNS
                    refine lc_range (lo := 0) (n := w5.toNat) (fun i Hd => Ex Ha Hd S ∧ SAt Hd S ∧ ∃ os : List Int, os.length = i ∧ Hd L = some (.lst (os.map V.int))) ?_ ?_ ?_
                    · obtain ⟨u', v', e⟩ := ta
                      exact ⟨fun a o e _ => same_new nL a o e, ⟨u', v', same_new nL _ _ e⟩, [], rfl, upd_same⟩
                    · rintro i Hd hi ⟨kd, td, os, lo, eL⟩
                      refine ⟨rfl, ?_⟩
                      dsimp only [tYes]
                      rw [if_pos rfl]
                      refine ⟨_, rfl, _, rfl, S, scr, 256, ns, rfl, by decide, by decide, td, sqOf (h17.trans (hid_ex fS1 (Ex.trans k7a kd))), fun He ve ke te c0 c1 => ?_⟩
                      refine ⟨_, ke _ _ eL nLS, small1000 (by rw [List.length_map]; omega), fun a o e na => ?_, ?_, os ++ [ve], by rw [List.length_append, lo]; rfl, by rw [upd_same, List.map_append]; rfl⟩
                      · rw [upd_ne (ne_of_none e nL)]
                        exact ke _ _ (kd _ _ e na) na
                      · obtain ⟨u', v', e⟩ := te
                        exact ⟨u', v', by rw [upd_ne nLS.symm]; exact e⟩
                    · rintro Hd ⟨kd, td, os, lo, eL⟩
                      have k7d : Ex H7 Hd S := Ex.trans k7a kd
                      have edN := kd _ _ eaN nNS
                      have edb := k7d _ _ eb7 nbS
                      refine ⟨_, rfl, _, rfl, N, _, rfl, DPut.t (k := kI r) edN (by rw [kI_v]; exact edb) (by rw [zip_len lz]; exact small1000 (by omega)), ?_⟩
                      rw [zip_push (key := fun c : List Int × List Int => kI c.1) (a := (r, os)) lz nkr]
                      have hF : Same (hid F1 H7) (hid F1 Hd) := hid_ex fS1 k7d
                      have kN : ∀ {a x}, hid F1 Hd a = some x → (∀ k, x ≠ .dT k) → hid F1 (upd Hd N (.dT (((cs ++ [(r, os)]).map fun c : List Int × List Int => kI c.1).zip (zs ++ [.ref L])))) a = some x := fun {a x} e nk => hid_mk (hid_some e).1 (by
                        rw [upd_ne (ne_of (hid_some e).2 edN (nk _))]
                        exact (hid_some e).2)
                      have fL : ¬ F1 L := fun f => occ_ex (F := F1) occ7 ta k7a L f nL
                      refine ⟨some (.ref b), rfl, (x7.trans (Xx.ex List.mem_cons_self k7d)).trans (Xx.put (List.mem_cons_of_mem _ List.mem_cons_self)), ?_, cs ++ [(r, os)], zs ++ [.ref L], upd_same, All.push (al7.imp fun z c ⟨a, e1, e2⟩ => ⟨a, e1, kN (hF _ _ e2) (fun _ z => nomatch z)⟩) ⟨L, rfl, kN (hid_mk fL eL) (fun _ z => nomatch z)⟩, ?_, fun c hc => ?_⟩
                      · obtain ⟨u', v', e⟩ := td
                        exact ⟨u', v', by rw [upd_ne nNS.symm]; exact e⟩
                      · rw [List.map_append, et6]
                        exact sub7.append (List.Sublist.refl _)
                      · rcases List.mem_append.mp hc with z | z
                        · exact len7 c z
                        · rw [List.mem_singleton.mp z]
                          show os.length ≤ 4
                          omega
                  · refine iteBF (decide_eq_false (fun z => h2 (V.int.inj z))) ⟨some (.ref b), rfl, x7.trans (Xx.ex List.mem_cons_self k79), t9, cs, zs, e9N, al7.imp (fun z c h => h.same (hid_ex fS1 k79)), ?_, len7⟩
                    rw [et6]
                    exact sub7.trans (List.sublist_append_left _ _)
              · rintro σ H7 ⟨y9, rfl, x7, t7, cs, zs, e7N, al7, sub7, len7⟩
                have nps : p ∉ [S, N] := by
                  intro z
                  rcases List.mem_cons.mp z with z | z
                  · exact npS z
                  · rw [← List.mem_singleton.mp z, e4p] at nN; cases nN
                refine ⟨y9, cs, zs, rfl, fun a o e n => ?_, t7, x7 _ _ (m4c _ _ e4p) nps, fin H7 x7, e7N, al7, sub7.trans ((List.take_sublist _ _).trans (List.take_sublist _ _)), ?_, len7⟩
                · refine x7 _ _ (m4c _ _ (x4 a o e n)) fun z => ?_
                  rcases List.mem_cons.mp z with z | z
                  · exact n (z ▸ List.mem_cons_self)
                  · rw [List.mem_singleton.mp z, ] at e
                    have := x4 N o e (fun y => n (by rw [List.mem_singleton.mp z]; exact y))
                    rw [nN] at this; cases this
                · have := sub7.length_le
                  rw [List.length_map, List.length_take, List.length_take] at this
                  omega
            rintro σ H7 ⟨y9, cs, zs, rfl, x7, t7, e7p, h47, e7N, al7, sub7, lc6, len7⟩
            refine ⟨_, rfl, _, rfl, (by show 2 ≤ sizeLine; decide), fun t nt => ?_⟩
            have m8 := same_new (o := .tup [u, .ref N]) nt
            obtain ⟨H8, eH8⟩ : ∃ H8, H8 = upd H7 t (.tup [u, .ref N]) := ⟨_, rfl⟩
            have e8t : H8 t = some (.tup [u, .ref N]) := by rw [eH8, upd_same]
            rw [← eH8] at m8 ⊢
            have e8p := m8 _ _ e7p
            have lx := al4.1
            have lms := sub.length_le
            rw [List.length_map, List.length_take] at lms
            have nkn : (Sum.inr n : Key) ∉ ms.map fun r : Am => (Sum.inr r.n : Key) := fun z => by
              obtain ⟨m, mm, e⟩ := List.mem_map.mp z
              have h1 : n ∈ (["a", "b", "long"] : List Str).take i := by
                rw [← Sum.inr.inj e]
                exact sub.subset (List.mem_map.mpr ⟨m, mm, rfl⟩)
              have h2 := abl_nd.sublist (List.take_sublist (i + 1) _)
              rw [et, List.nodup_append] at h2
              exact h2.2.2 n h1 n (List.mem_singleton.mpr rfl) rfl
            have l3 : ((["a", "b", "long"] : List Str)).length = 3 := rfl
            refine ⟨_, rfl, _, rfl, p, _, rfl, DPut.k (k := Sum.inr n) e8p (by rw [zip_len lx]; exact small1000 (by omega)), ?_⟩
            rw [zip_push (key := fun r : Am => (Sum.inr r.n : Key)) (a := ⟨n, ds, ts, cs⟩) lx nkn]
            have ft : ¬ F1 t := fun f => by
              have : H7 t ≠ none := by
                by_cases y : t = S
                · obtain ⟨u', v', eS⟩ := t7
                  rw [y, eS]
                  exact fun z => nomatch z
                · rcases nF1 f with g | g
                  · cases eo : H1 t with
                    | none => exact absurd eo (occ1 t f)
                    | some o =>
                      rw [x7 t o (mb t o eo) (by
                        intro w
                        rcases List.mem_cons.mp w with w | w
                        · exact y w
                        · exact pF0 (List.mem_singleton.mp w ▸ g))]
                      exact fun z => nomatch z
                  · rw [g, e7p]
                    exact fun z => nomatch z
              exact this nt
            have hP : Same (hid F1 H8) (hid F1 (upd H8 p (.dK (((ms ++ [(⟨n, ds, ts, cs⟩ : Am)]).map fun r : Am => (Sum.inr r.n : Key)).zip (xs ++ [V.ref t]))))) := fun a o e => hid_mk (hid_some e).1 (by
              rw [upd_ne (show a ≠ p from fun z => (hid_some e).1 (mkF1 (.inr z)))]
              exact (hid_some e).2)
            have h4f := h47.trans ((hid_of_same m8).trans hP)
            have h7f := (hid_of_same (F := F1) m8).trans hP
            refine ⟨_, _, _, _, _, _, rfl, (x7.trans (Xx.same m8)).trans (Xx.put (List.mem_cons_of_mem _ List.mem_cons_self)), ?_, ms ++ [⟨n, ds, ts, cs⟩], xs ++ [.ref t], upd_same, ?_, ?_, fun m hm => ?_⟩
            · obtain ⟨u', v', e⟩ := t7
              exact ⟨u', v', by rw [upd_ne npS.symm]; exact m8 _ _ e⟩
            · exact All.push (al4.imp fun z m hz => hz.same h4f) ⟨t, u, .ref N, rfl, hP _ _ (hid_mk ft e8t), sh4.same h4f, N, zs, rfl, h7f _ _ (hid_mk fN e7N), al7.imp fun z c h => h.same h7f⟩
            · rw [List.map_append, et]
              exact sub.append (List.Sublist.refl _)
            · rcases List.mem_append.mp hm with z | z
              · exact dr m z
              · rw [List.mem_singleton.mp z]
                exact ⟨dr4, sub7, lc6, len7⟩
        · refine iteBF (decide_eq_false hv) ⟨_, _, _, _, _, _, rfl, x3, t3, ms, xs, e3p, al.imp fun z m hz => hz.same h23, ?_, dr⟩
          rw [et]
          exact sub.trans (List.sublist_append_left _ _)
      · rintro σ H2 ⟨y4, y5, y6, y7, y8, y9, rfl, x2, t2, ms, xs, e2p, al, sub, dr⟩
        exact ⟨y4, y5, y6, y7, y8, y9, rfl, (Xx.same mb).trans x2, t2, ms, xs, e2p, al, sub, dr⟩
    rintro σ H2 ⟨y4, y5, y6, y7, y8, y9, rfl, x2, t2, ms, xs, e2p, al, sub, dr⟩
    refine ⟨_, rfl, q H2 _ ms (fun a o e n => x2 a o (m0 a o e) ?_) t2 ⟨p, xs, rfl, hid_mk pF0 e2p, al.imp fun z m hz => hz.same (hid_le fun a f => mkF1 (.inl f))⟩ ⟨sub, dr⟩⟩
    intro z
    rcases List.mem_cons.mp z with z | z
    · exact n z
    · rw [List.mem_singleton.mp z, np] at e; cases e
end
end K2

namespace K2
open PySem L2
theorem depth_strs : ∀ os : List Str, PyData.depthAll (os.map PyData.str) ≤ 1
  | [] => by simp [PyData.depthAll]
  | n :: r => by
    have := depth_strs r
    simp [PyData.depthAll, PyData.depth] at this ⊢
    omega
theorem lay_abl : ∀ n ∈ (["a", "b", "long"] : List Str), PyData.canLay0 (.str n) = true := by decide +kernel
theorem lay_strs : ∀ os : List Str, (∀ n ∈ os, n ∈ (["a", "b", "long"] : List Str)) → PyData.canLayAll0 (os.map PyData.str) = true
  | [], _ => by simp [PyData.canLayAll0]
  | n :: r, h => by
    have h1 := lay_strs r fun x hx => h x (List.mem_cons_of_mem _ hx)
    have h2 := lay_abl n (h n List.mem_cons_self)
    rw [List.map_cons, PyData.canLayAll0, h1, h2]
    rfl
theorem dp_strs {K : PySem.W.Frag} {H : Hp} : ∀ os : List Str, DpAll K H (os.map V.str) (os.map PyData.str)
  | [] => .nil
  | n :: r => .cons (.str n) (dp_strs r)
theorem ne_strs {K : PySem.W.Frag} {H : Hp} {a b : Addr} {os : List Str} {Q : VK} (hn : ∀ n ∈ os, n ∈ (["a", "b", "long"] : List Str)) (ha : H a = some (.lst (os.map V.str))) (hb : H b = some (.lst (os.map V.str))) (q : Q (.bl false) H) : rNeD K (.ref a) (.ref b) H Q := by
  refine ⟨.list (os.map PyData.str), .list (os.map PyData.str), .lst (.inl (.inl ha)) (dp_strs os), .lst (.inl (.inl hb)) (dp_strs os), shp_of (depth_strs os) (lay_strs os hn), shp_of (depth_strs os) (lay_strs os hn), ?_⟩
  rw [eqv_of (lay_strs os hn)]
  exact q
def rowP (r : List Int) : PyData := .tuple (r.map PyData.int)
theorem depth_rows : ∀ rs : List (List Int), PyData.depthAll (rs.map rowP) ≤ 2
  | [] => by simp [PyData.depthAll]
  | n :: r => by
    have h1 := depth_rows r
    have h2 := depth_ints n
    simp [PyData.depthAll, PyData.depth, rowP] at h1 h2 ⊢
    omega
theorem lay_rows : ∀ rs : List (List Int), PyData.canLayAll0 (rs.map rowP) = true
  | [] => by simp [PyData.canLayAll0]
  | n :: r => by
    have h1 := lay_rows r
    have h2 := lay_ints n
    simp [PyData.canLayAll0, PyData.canLay0, rowP] at h1 h2 ⊢
    exact ⟨h2, h1⟩
theorem dp_rows {K : PySem.W.Frag} {H : Hp} : ∀ (xs : List V) (rs : List (List Int)), All (IsAt H) xs rs → DpAll K H xs (rs.map rowP)
  | [], [], _ => .nil
  | x :: xs, r :: rs, h => by
    obtain ⟨y, e, a, rfl, ha⟩ := h.2 0 r rfl
    obtain rfl := Option.some.inj e
    exact .cons (.tup (SqT.of ha) (dp_ints r)) (dp_rows xs rs ⟨by simpa using h.1, fun i r e => h.2 (i + 1) r e⟩)
  | [], _ :: _, h => by simpa using h.1
  | _ :: _, [], h => by simpa using h.1
theorem ne_rows {K : PySem.W.Frag} {H : Hp} {a b : Addr} {xs ys : List V} {rs : List (List Int)} {Q : VK} (hx : All (IsAt H) xs rs) (hy : All (IsAt H) ys rs) (ha : H a = some (.lst xs)) (hb : H b = some (.lst ys)) (q : Q (.bl false) H) : rNeD K (.ref a) (.ref b) H Q := by
  have sh : SeqAt.shaped (.list (rs.map rowP)) = true := by
    have h2 : PyData.depth (.list (rs.map rowP)) ≤ 64 := by
      have := depth_rows rs
      simp only [PyData.depth]
      omega
    show (PyData.canLay0 (.list (rs.map rowP)) && decide (PyData.depth (.list (rs.map rowP)) ≤ 64)) = true
    rw [Bool.and_eq_true]
    exact ⟨by simp only [PyData.canLay0]; exact lay_rows rs, decide_eq_true h2⟩
  refine ⟨.list (rs.map rowP), .list (rs.map rowP), .lst (.inl (.inl ha)) (dp_rows _ _ hx), .lst (.inl (.inl hb)) (dp_rows _ _ hy), sh, sh, ?_⟩
  rw [eqv_of (lay_rows rs)]
  exact q
theorem ne_nons {K : PySem.W.Frag} {H : Hp} {Q : VK} (q : Q (.bl false) H) : rNeD K .non .non H Q := by
  refine ⟨.none, .none, .non, .non, by decide, by decide, ?_⟩
  rw [show PyData.eqv .none .none = true from by simp [PyData.eqv]]
  exact q
theorem last_max {rs : List Ve} (w : WfR rs) {m : Int} (h1 : m ∈ (0 : Int) :: rs.map Ve.no) (h2 : ∀ y, y ∈ (0 : Int) :: rs.map Ve.no → y ≤ m) : lastNo rs = m := by
  have a : lastNo rs ∈ (0 : Int) :: rs.map Ve.no := by
    unfold lastNo
    cases e : rs.getLast? with
    | none => exact List.mem_cons_self
    | some r => exact List.mem_cons_of_mem _ (List.mem_map.mpr ⟨r, List.mem_of_getLast? e, rfl⟩)
  have b : m ≤ lastNo rs := by
    rcases List.mem_cons.mp h1 with rfl | h1
    · unfold lastNo
      cases e : rs.getLast? with
      | none => exact Int.le_refl _
      | some r => exact Int.le_trans (by decide) (w.v r (List.mem_of_getLast? e)).no
    · obtain ⟨r, hr, rfl⟩ := List.mem_map.mp h1
      cases e : rs.getLast? with
      | none => rw [List.getLast?_eq_none_iff.mp e] at hr; cases hr
      | some z =>
        unfold lastNo
        rw [e]
        show r.no ≤ z.no
        obtain ⟨ys, rfl⟩ := List.getLast?_eq_some_iff.mp e
        rcases List.mem_append.mp hr with hr | hr
        · have := w.a
          rw [List.map_append, List.pairwise_append] at this
          exact Int.le_of_lt (this.2.2 r.no (List.mem_map.mpr ⟨r, hr, rfl⟩) z.no (List.mem_singleton.mpr rfl))
        · rw [List.mem_singleton.mp hr]
          exact Int.le_refl _
  exact Int.le_antisymm (h2 _ a) b
/-- the model of the law -/
def MdD (H : Hp) (C : Addr) (y : V) (ms : List (Int × List Am)) : Prop := DkM H (fun m : Int × List Am => (Sum.inl m.1 : Key)) (fun y m => AmsD H C y m.2) y ms
theorem MdD.same {H H1 : Hp} {C : Addr} {y : V} {ms : List (Int × List Am)} (h : MdD H C y ms) (s : Same H H1) : MdD H1 C y ms := DkM.same h s fun _ _ z => z.same s
def mdl (D : List Int) (rs : List Ve) : List (Int × List Am) := rs.map fun r => (r.no, r.as.map (vw D))
structure LwR (D : List Int) (rs : List Ve) : Prop where
  ok : OkV D rs
  dr : ∀ r ∈ rs, ∀ a ∈ r.as, (∀ d ∈ a.ds, DrD d) ∧ a.ds.length ≤ 2
  nm : ∀ r ∈ rs, ∀ a ∈ r.as, a.n ∈ (["a", "b", "long"] : List Str)
def spSm (CS CD CC CR C : Addr) : Sp := fun vs H Q _ => ∃ (s d lm : Addr) (st : DS) (p : DP) (up da : Int) (rs : List Ve) (D : List Int), vs = [.ref s, .ref lm] ∧ StAt CS CD CC CR C H s d st p up da rs ∧ (st.rd (dN da)).getD [] = D ∧ LwR D rs ∧ MdD H C (.ref lm) (mdl D rs) ∧ ∀ H', Same H H' → Q (.bl true) H'
theorem lk_pl (v : Int) : List.lookup ("place" : Str) [(("name" : Str), V.str "InvalidVersion"), ("place", V.int v)] = some (V.int v) := by
  rw [List.lookup_cons, show (("place" : Str) == "name") = false from by decide +kernel]
  rfl
def spLRf (CS CD CC CR C : Addr) : Sp := fun vs H Q _ => ∃ (s d : Addr) (st : DS) (p : DP) (up da : Int) (rs : List Ve) (v : Int), vs = [.ref s, .int v] ∧ StAt CS CD CC CR C H s d st p up da rs ∧ v ∉ rs.map Ve.no ∧ ∀ H', Same H H' → Q (.bl true) H'
section
variable {P : Program} {w : World} {K : PySem.W.Frag} {mg : Str → Option Value} {base : Heap}
theorem sc_lsm : FnScope ["store", "model", "number", "arrays", "name", "shape", "chunks", "chunk"] ["store", "model"] (defScope sLSame) := ⟨rfl, rfl, rfl, by decide +kernel, rfl, by decide +kernel, by decide +kernel⟩
theorem ok_lsm {f : Addr} {fd : FuncData} {CS CD CC CR C fI : Addr} {fV fT fA fP fK fQ fC fE : Addr} {fdV fdT fdA fdP fdK fdQ fdC fdE : FuncData} (F : Fun K "_law_same" "_law_same" sLSame f fd) (M : Nm mg) (T : KC K CS fI SFf) (I : IsiC K C fE) (GE : FnOk P w K mg base CX0 3 fE fdE ["self", "other"] (spEq (RSh C))) (bE : Binds K fdE ["self", "other"] []) (GV : FnOk P w K mg base CX0 1 fV fdV ["self"] (spVs CS CD CC CR C)) (mV : Meth K CS "versions" fV) (bV : Binds K fdV ["self"] []) (GT : FnOk P w K mg base CX0 1 fT fdT ["self"] (spLt CS CD CC CR C)) (mT : Meth K CS "latest" fT) (bT : Binds K fdT ["self"] []) (GA : FnOk P w K mg base CX0 4 fA fdA ["self", "version"] (spArs CS CD CC CR C)) (mA : Meth K CS "arrays" fA) (bA : Binds K fdA ["self", "version"] []) (GP : FnOk P w K mg base CX0 4 fP fdP ["self", "version", "name"] (spShp CS CD CC CR C)) (mP : Meth K CS "shape" fP) (bP : Binds K fdP ["self", "version", "name"] []) (GK : FnOk P w K mg base CX0 4 fK fdK ["self", "version", "name"] (spChs CS CD CC CR C)) (mK : Meth K CS "chunks" fK) (bK : Binds K fdK ["self", "version", "name"] []) (GQ : FnOk P w K mg base CX0 5 fQ fdQ ["self", "version", "name", "chunk"] (spChk CS CD CC CR C)) (mQ : Meth K CS "chunk" fQ) (bQ : Binds K fdQ ["self", "version", "name", "chunk"] []) (GC : FnOk P w K mg base CX0 1 fC fdC ["shape"] (spLC C)) (kC : PySem.W.keepIn K (.ref fC) = true) (bC : Binds K fdC ["shape"] []) (gC : mg "_law_chunks" = some (.ref fC)) : FnOk P w K mg base CX0 6 f fd ["store", "model"] (spSm CS CD CC CR C) := by
  refine F.ok sc_lsm (fun vs H Q E h => ?_) (fun cdv A outer s0 H vs Q E hr h => ?_)
  · obtain ⟨s, d, lm, st, p, up, da, rs, D, rfl, h, hD, lw, md, q⟩ := h
    rfl
  · obtain ⟨s, d, lm, st, p, up, da, rs, D, rfl, h, hD, lw, md, q⟩ := h
    have hu := hu_of hr
    refine ⟨_, (pss_cons (ps_if (PW.pt (pw_or (pt_cmpR (op_neD hr.units) (pe_meth0 (pv 0) T.cl mV GV (hr.mono (j := 1) (by decide)) bV .nil pass0) (pe_callB (call_sortedDI rfl) (by rfl) M.sorted (by decide +kernel) (pa_cons (pv 1) pa_nil)) (nomark _)) (pw_or1 (pt_cmpR op_ne (pe_meth0 (pv 0) T.cl mT GT (hr.mono (j := 1) (by decide)) bT .nil pass0) (pe_callB (cr_max rfl) (by rfl) M.max (by decide +kernel) (pa_cons (pe_op op_cat (pe_lst (pa_cons pe_int pa_nil)) (pe_callB (call_sortedDI rfl) (by rfl) M.sorted (by decide +kernel) (pa_cons (pv 1) pa_nil))) pa_nil)) (nomark _))))) (pss_one (ps_ret pe_bl)) pss_nil)
      (Evl.pss_cut (ps_for PassesOwn.never rfl (pi_list (pe_callB (call_sortedDI rfl) (by rfl) M.sorted (by decide +kernel) (pa_cons (pv 1) pa_nil))) (pg_name (i := 2) sc_lsm.nd rfl (.inl rfl)) (pss_cons (ps_set (i := 3) sc_lsm.nd rfl (.inl rfl) (pe_dget hu (pv 1) (pv 2) (fun _ _ => rfl)))
      (pss_cons (ps_if (pt_cmpR (op_neD hr.units) (pe_meth (pv 0) T.cl mA GA (hr.mono (j := 4) (by decide)) bA .nil pass0 (pa_cons (pv 2) pa_nil)) (pe_callB (call_sortedD rfl) (by rfl) M.sorted (by decide +kernel) (pa_cons (pv 3) pa_nil)) (nomark _)) (pss_one (ps_ret pe_bl)) pss_nil)
      (pss_one (ps_for PassesOwn.never rfl (pi_list (pe_callB (call_sortedD rfl) (by rfl) M.sorted (by decide +kernel) (pa_cons (pv 3) pa_nil))) (pg_name (i := 4) sc_lsm.nd rfl (.inl rfl)) (pss_cons (ps_asg (pe_dget hu (pv 3) (pv 4) (fun _ _ => rfl)) (pg_tup (by rfl) (pgs_cons (pg_name (i := 5) sc_lsm.nd rfl (.inl rfl)) (pgs_cons (pg_name (i := 6) sc_lsm.nd rfl (.inl rfl)) pgs_nil))))
      (pss_cons (ps_if (PW.pt (pw_or (pt_not (pt_cmpR (op_owneq I.eq I.ef GE bE (hr.mono (j := 3) (by decide)) pass0) (pe_meth (pv 0) T.cl mP GP (hr.mono (j := 4) (by decide)) bP .nil pass0 (pa_cons (pv 2) (pa_cons (pv 4) pa_nil))) (pv 5) (nomark _))) (pw_or1 (pt_cmpR (op_neD hr.units) (pe_meth (pv 0) T.cl mK GK (hr.mono (j := 4) (by decide)) bK .nil pass0 (pa_cons (pv 2) (pa_cons (pv 4) pa_nil))) (pe_callB (cr_sortKT rfl hr.units) (by rfl) M.sorted (by decide +kernel) (pa_cons (pv 6) pa_nil)) (nomark _))))) (pss_one (ps_ret pe_bl)) pss_nil)
      (pss_one (ps_for PassesOwn.never rfl (pi_list (pe_call GC (hr.mono (j := 1) (by decide)) (by rfl) gC kC bC .nil pass0 (pa_cons (pv 5) pa_nil))) (pg_name (i := 7) sc_lsm.nd rfl (.inl rfl)) (pss_one (ps_if (pt_cmpR (op_neD hr.units) (pe_meth (pv 0) T.cl mQ GQ (hr.mono (j := 5) (by decide)) bQ .nil pass0 (pa_cons (pv 2) (pa_cons (pv 4) (pa_cons (pv 7) pa_nil)))) (pe_dget1 hu (pv 6) (pv 7) ⟨rfl, rfl, rfl, rfl⟩) (nomark _)) (pss_one (ps_ret pe_bl)) pss_nil)))))))))))
      (pss_one (ps_ret pe_bl)))), ?_⟩
    obtain ⟨dx, ra, y, hi, hrt, hvs⟩ := h.i
    obtain ⟨lm', xs, e0, elm, alm⟩ := id md
    obtain rfl := V.ref.inj e0
    have lrs : rs.length < 64 := h.w.l
    have kn : (((mdl D rs).map fun m : Int × List Am => (Sum.inl m.1 : Key)).zip xs).map (·.1) = (rs.map Ve.no).map Sum.inl := by
      rw [zip_keys alm.1]
      unfold mdl
      rw [List.map_map, List.map_map]
      rfl
    have srt1 : ∀ ys : List Int, ys.Perm (rs.map Ve.no) → ys.Pairwise (· ≤ ·) → ys = rs.map Ve.no := fun ys pm pw => uniqP (r := (· ≤ ·)) (fun _ _ => Int.le_antisymm) pw (h.w.a.imp Int.le_of_lt) pm
    refine ⟨_, rfl, s, dx, _, rfl, hi, rfl, s, d, st, p, up, da, rs, rfl, h, fun H1 q1 m1 n1 e1 => ?_⟩
    refine ⟨_, rfl, lm, _, rs.map Ve.no, rfl, Rd.of (m1 _ _ elm), kn, by rw [List.length_map]; exact lrs, fun ys q2 pm pw n2 => ?_⟩
    rw [srt1 ys pm pw]
    have m2 := same_new (o := .lst ((rs.map Ve.no).map V.int)) n2
    refine ne_ints (m2 _ _ e1) upd_same ⟨_, rfl, iteF ?_⟩
    obtain ⟨H2, eH2⟩ : ∃ H2, H2 = upd H1 q2 (.lst ((rs.map Ve.no).map V.int)) := ⟨_, rfl⟩
    rw [← eH2] at m2 ⊢
    have m02 := m1.trans m2
    refine ⟨_, rfl, s, dx, _, rfl, m02 _ _ hi, rfl, s, d, st, p, up, da, rs, rfl, h.same m02, ?_⟩
    refine ⟨(by show 1 ≤ sizeLine; decide), fun l0 nl0 => ?_⟩
    obtain ⟨H3, eH3⟩ : ∃ H3, H3 = upd H2 l0 (.lst [.int 0]) := ⟨_, rfl⟩
    have m3 := same_new (o := .lst [.int 0]) nl0
    have e3 : H3 l0 = some (.lst [.int 0]) := by rw [eH3, upd_same]
    rw [← eH3] at m3 ⊢
    have m03 := m02.trans m3
    refine ⟨_, rfl, lm, _, rs.map Ve.no, rfl, Rd.of (m03 _ _ elm), kn, by rw [List.length_map]; exact lrs, fun ys q4 pm pw n4 => ?_⟩
    rw [srt1 ys pm pw]
    obtain ⟨H4, eH4⟩ : ∃ H4, H4 = upd H3 q4 (.lst ((rs.map Ve.no).map V.int)) := ⟨_, rfl⟩
    have m4 := same_new (o := .lst ((rs.map Ve.no).map V.int)) n4
    have e4 : H4 q4 = some (.lst ((rs.map Ve.no).map V.int)) := by rw [eH4, upd_same]
    rw [← eH4] at m4 ⊢
    have m04 := m03.trans m4
    refine ⟨l0, q4, _, _, rfl, rfl, m4 _ _ e3, e4, Nat.le_of_lt (small1000 (by rw [List.length_map, List.length_map]; have : ([V.int 0] : List V).length = 1 := rfl; omega)), fun q5 n5 => ?_⟩
    have m5 := same_new (o := .lst (((0 : Int) :: rs.map Ve.no).map V.int)) n5
    obtain ⟨H5, eH5⟩ : ∃ H5, H5 = upd H4 q5 (.lst (((0 : Int) :: rs.map Ve.no).map V.int)) := ⟨_, rfl⟩
    have e5 : H5 q5 = some (.lst (((0 : Int) :: rs.map Ve.no).map V.int)) := by rw [eH5, upd_same]
    rw [← eH5] at m5
    rw [show [V.int 0] ++ (rs.map Ve.no).map V.int = ((0 : Int) :: rs.map Ve.no).map V.int from rfl, ← eH5]
    have m05 := m04.trans m5
    refine ⟨q5, _, rfl, .inl (.inl e5), Nat.succ_pos _, fun m z1 z2 => ⟨rfl, _, rfl, ?_⟩⟩
    obtain rfl := last_max h.w z1 z2
    refine iteBF (by simp) ?_
    refine ⟨fun σ H6 => ∃ y2 y3 y4 y5 y6 y7, σ = [some (.ref s), some (.ref lm), y2, y3, y4, y5, y6, y7] ∧ Same H H6, ?_, ?_⟩
    · refine ⟨_, rfl, lm, _, rs.map Ve.no, rfl, Rd.of (m05 _ _ elm), kn, by rw [List.length_map]; exact lrs, fun ys q6 pm pw n6 => ?_⟩
      rw [srt1 ys pm pw]
      obtain ⟨H6, eH6⟩ : ∃ H6, H6 = upd H5 q6 (.lst ((rs.map Ve.no).map V.int)) := ⟨_, rfl⟩
      have m6 := same_new (o := .lst ((rs.map Ve.no).map V.int)) n6
      have e6 : H6 q6 = some (.lst ((rs.map Ve.no).map V.int)) := by rw [eH6, upd_same]
      rw [← eH6] at m6 ⊢
      have m06 := m05.trans m6
      refine ⟨q6, rfl, ⟨_, .inl (.inl e6)⟩, for_it (walk_list (xs := (rs.map Ve.no).map V.int)) (fun i σ H7 => ∃ y2 y3 y4 y5 y6 y7, σ = [some (.ref s), some (.ref lm), y2, y3, y4, y5, y6, y7] ∧ Same H6 H7) ?_ ?_ ?_ ?_⟩
      · exact ⟨_, _, _, _, _, _, rfl, Same.refl _⟩
      · rintro i σ H7 hi7 ⟨y2, y3, y4, y5, y6, y7, rfl, m7⟩
        exact .inl (.inl (m7 _ _ e6))
      · rintro i x σ Hx H7 hi7 ⟨y2, y3, y4, y5, y6, y7, rfl, m7⟩ ⟨rfl, hx⟩
        rw [List.getElem?_map, List.getElem?_map] at hx
        obtain ⟨r, hr1, rfl⟩ : ∃ r ∈ rs, x = .int r.no := by
          cases e : rs[i]? with
          | none => rw [e] at hx; cases hx
          | some r =>
            rw [e] at hx
            exact ⟨r, List.mem_of_getElem? e, (Option.some.inj hx).symm⟩
        have m07 := m06.trans m7
        have h7 := h.same m07
        have md7 := md.same m07
        have mm : (r.no, r.as.map (vw D)) ∈ mdl D rs := List.mem_map.mpr ⟨r, hr1, rfl⟩
        obtain ⟨w0, g, ya, xa, rfl, eya, ala⟩ := DkM.get md7 (by
          unfold mdl
          rw [List.map_map]
          exact h.w.nd) mm
        have wv := h.w.v r hr1
        have hi7 := m07 _ _ hi
        refine ⟨_, rfl, _, rfl, lm, _, rfl, g, ?_⟩
        refine ⟨_, rfl, s, dx, _, rfl, hi7, rfl, _, rfl, s, d, st, p, up, da, rs, r, rfl, h7, hr1, fun H8 q8 m8 n8 e8 => ?_⟩
        have kna : (((r.as.map (vw D)).map fun m : Am => (Sum.inr m.n : Key)).zip xa).map (·.1) = (r.as.map Ar.n).map Sum.inr := by
          rw [zip_keys ala.1, List.map_map, List.map_map]
          rfl
        have lna : (r.as.map Ar.n).length < 64 := by rw [List.length_map]; exact wv.ln
        have srt2 : ∀ ys : List Str, ys.Perm (r.as.map Ar.n) → PyProof.Rows.sortedS ys = true → ys = r.as.map Ar.n := fun ys pm sr => pw_perm (sorted_pw sr) (sorted_pw wv.nm.2) pm
        refine ⟨_, rfl, ya, _, r.as.map Ar.n, rfl, Rd.of (m8 _ _ eya), kna, lna, fun ys q9 pm sr n9 => ?_⟩
        rw [srt2 ys pm sr]
        have m9 := same_new (o := .lst ((r.as.map Ar.n).map V.str)) n9
        have hnm : ∀ n ∈ r.as.map Ar.n, n ∈ (["a", "b", "long"] : List Str) := fun n hn => by
          obtain ⟨a, ha, rfl⟩ := List.mem_map.mp hn
          exact lw.nm r hr1 a ha
        refine ne_strs hnm (m9 _ _ e8) upd_same ⟨_, rfl, iteF ?_⟩
        obtain ⟨H9, eH9⟩ : ∃ H9, H9 = upd H8 q9 (.lst ((r.as.map Ar.n).map V.str)) := ⟨_, rfl⟩
        rw [← eH9] at m9 ⊢
        have m79 := m8.trans m9
        refine ⟨_, rfl, ya, _, r.as.map Ar.n, rfl, Rd.of (m79 _ _ eya), kna, lna, fun ys qa pm sr na => ?_⟩
        rw [srt2 ys pm sr]
        obtain ⟨Ha, eHa⟩ : ∃ Ha, Ha = upd H9 qa (.lst ((r.as.map Ar.n).map V.str)) := ⟨_, rfl⟩
        have ma := same_new (o := .lst ((r.as.map Ar.n).map V.str)) na
        have ea : Ha qa = some (.lst ((r.as.map Ar.n).map V.str)) := by rw [eHa, upd_same]
        rw [← eHa] at ma ⊢
        have m7a := m79.trans ma
        refine ⟨qa, rfl, ⟨_, .inl (.inl ea)⟩, for_it (walk_list (xs := (r.as.map Ar.n).map V.str)) (fun i σ Hb => ∃ y4 y5 y6 y7, σ = [some (.ref s), some (.ref lm), some (.int r.no), some (.ref ya), y4, y5, y6, y7] ∧ Same Ha Hb) ?_ ?_ ?_ ?_⟩
        · exact ⟨_, _, _, _, rfl, Same.refl _⟩
        · rintro i σ Hb hib ⟨y4, y5, y6, y7, rfl, mb⟩
          exact .inl (.inl (mb _ _ ea))
        · rintro i x σ Hx Hb hib ⟨y4, y5, y6, y7, rfl, mb⟩ ⟨rfl, hx⟩
          rw [List.getElem?_map, List.getElem?_map] at hx
          obtain ⟨a, ha1, rfl⟩ : ∃ a ∈ r.as, x = .str a.n := by
            cases e : r.as[i]? with
            | none => rw [e] at hx; cases hx
            | some a =>
              rw [e] at hx
              exact ⟨a, List.mem_of_getElem? e, (Option.some.inj hx).symm⟩
          have m7b := m7a.trans mb
          have hb := h7.same m7b
          have hib := m7b _ _ hi7
          obtain ⟨w1, g1, tb, u, w2, rfl, etb, hsh, hcs⟩ := DkM.get (H := Hb) (a := ya) (R := AmD Hb C) (l := r.as.map (vw D)) ⟨ya, xa, rfl, m7b _ _ eya, ala.imp fun _ _ z => z.same m7b⟩ (by
            rw [List.map_map]
            exact wv.nd) (List.mem_map.mpr ⟨a, ha1, rfl⟩)
          refine ⟨_, rfl, _, rfl, ya, _, rfl, g1, tb, _, rfl, SqT.of etb, rfl, _, _, rfl, _, _, rfl, rfl, ?_⟩
          obtain ⟨k1, k2, k3⟩ := wv.ck a ha1
          refine ⟨_, rfl, s, dx, _, rfl, hib, rfl, _, rfl, _, rfl, s, d, st, p, up, da, rs, r, a, rfl, hb, hr1, ha1, fun u0 hu0 => ?_⟩
          have hu0 := hu0.same (hid_same _ _)
          have hsh : ShAt Hb C u a.ds a.ts := hsh
          obtain ⟨a0, dx0, v01, v02, rfl, ha0, _⟩ := id hu0
          obtain ⟨a2, dx2, v21, v22, rfl, ha2, _⟩ := id hsh
          refine ⟨_, rfl, a0, dx0, _, a2, _, rfl, rfl, ha0, .ins ha2, I.n1, a0, a2, rfl, ⟨a.ds, a.ts, hu0, hsh⟩, fun Hc mc => ?_⟩
          refine ⟨_, rfl, iteF ?_⟩
          have m7c := m7b.trans mc
          have hc := h7.same m7c
          obtain ⟨ca, xc, rfl, eca, alc⟩ := id hcs
          have kc : (((vw D a).cs.map fun c : List Int × List Int => kI c.1).zip xc).map (·.1) = (a.cs.map Ck.c).map kI := by
            rw [zip_keys alc.1]
            unfold vw
            rw [List.map_map, List.map_map]
            rfl
          refine ⟨_, rfl, s, dx, _, rfl, m7c _ _ hi7, rfl, _, rfl, _, rfl, s, d, st, p, up, da, rs, r, a, rfl, hc, hr1, ha1, fun Hd q1 xs1 md' n1 e1 al1 => ?_⟩
          have mbd := mc.trans md'
          refine ⟨_, rfl, ca, _, a.cs.map Ck.c, rfl, Rd.of (mbd _ _ eca), kc, k1, fun r2 hr2 => by
            obtain ⟨c, hc, rfl⟩ := List.mem_map.mp hr2
            exact k2 c hc, (by rw [List.length_map]; omega), fun q2 bs n2 kat => ?_⟩
          obtain ⟨He, eHe⟩ : ∃ He, He = upd Hd q2 (.lst (bs.map V.ref)) := ⟨_, rfl⟩
          have me := same_new (o := .lst (bs.map V.ref)) n2
          have ee : He q2 = some (.lst (bs.map V.ref)) := by rw [eHe, upd_same]
          rw [← eHe] at me ⊢
          refine ne_rows (al1.imp fun _ _ z => RowAt.same z me) ((keys_all kat).imp fun _ _ z => RowAt.same z me) (me _ _ e1) ee ⟨_, rfl, iteF ?_⟩
          have mbe := mbd.trans me
          refine ⟨_, rfl, .ref a2, a.ds, a.ts, rfl, hsh.same mbe, (lw.dr r hr1 a ha1).1, (lw.dr r hr1 a ha1).2, fun Hf q3 xs3 mf e3 al3 => ?_⟩
          have mbf := mbe.trans mf
          have mbf' := m7b.trans mbf
          refine ⟨q3, rfl, ⟨_, .inl (.inl e3)⟩, for_it (walk_list (xs := xs3)) (fun i σ Hg => ∃ y7, σ = [some (.ref s), some (.ref lm), some (.int r.no), some (.ref ya), some (.str a.n), some (.ref a2), some (.ref ca), y7] ∧ Same Hf Hg) ?_ ?_ ?_ ?_⟩
          · exact ⟨_, rfl, Same.refl _⟩
          · rintro i σ Hg hig ⟨y7, rfl, mg'⟩
            exact .inl (.inl (mg' _ _ e3))
          · rintro i x σ Hx Hg hig ⟨y7, rfl, mg'⟩ ⟨rfl, hx⟩
            have mbg := mbf.trans mg'
            have m7g := m7b.trans mbg
            have hg := h7.same m7g
            obtain ⟨pl, hpl⟩ : ∃ pl, (rowsF a.ds)[i]? = some pl := ⟨_, List.getElem?_eq_getElem (by
              have := al3.1
              have := (List.getElem?_eq_some_iff.mp hx).1
              omega)⟩
            obtain ⟨x', ex', t, rfl, ht⟩ := al3.2 i pl hpl
            rw [hx] at ex'
            obtain rfl := Option.some.inj ex'
            have ht := mg' _ _ ht
            have okc : ∀ c ∈ a.cs, Okc D c := fun c hc => lw.ok r hr1 a ha1 c hc
            have hcs' : MsD Hg (.ref ca) (vw D a).cs := hcs.same mbg
            have fin : ∀ H', Same Hg H' → ∃ y7, ([some (.ref s), some (.ref lm), some (.int r.no), some (.ref ya), some (.str a.n), some (.ref a2), some (.ref ca), some (.ref t)] : St) = [some (.ref s), some (.ref lm), some (.int r.no), some (.ref ya), some (.str a.n), some (.ref a2), some (.ref ca), y7] ∧ Same Hf H' := fun H' m => ⟨_, rfl, mg'.trans m⟩
            refine ⟨_, rfl, s, dx, _, rfl, m7g _ _ hi7, rfl, _, rfl, _, rfl, _, rfl, s, d, t, st, p, up, da, rs, r, a, pl, D, rfl, hg, hr1, ha1, ht, hD, okc, fun np => ?_, fun c hc ec Hh q4 mh n4 e4 => ?_⟩
            · have gz := DtM.no (H1 := Hg) (b := t) (k := kI pl) hcs' (Same.refl _) (fun z => by
                obtain ⟨c', hc', e⟩ := List.mem_map.mp z
                obtain ⟨c, hc, rfl⟩ := List.mem_map.mp hc'
                exact np (List.mem_map.mpr ⟨c, hc, kI_inj e⟩)) (by rw [kI_v]; exact ht)
              exact ⟨_, rfl, ca, rfl, .inr ⟨_, Rd.of (mbg _ _ eca)⟩, _, rfl, none, gz, ne_nons ⟨_, rfl, iteF (fin _ (Same.refl _))⟩⟩
            · obtain ⟨z, gz, l4, rfl, el4⟩ := DtM.get (H1 := Hh) (b := t) (hcs'.same mh) (Same.refl _) (asc_ndm (by
                have : (vw D a).cs.map (·.1) = a.cs.map Ck.c := by
                  unfold vw
                  rw [List.map_map]
                  rfl
                rw [this]
                exact k1)) (List.mem_map.mpr ⟨c, hc, rfl⟩) (by rw [kI_v]; show Hh t = _; rw [ec]; exact mh _ _ ht)
              exact ⟨_, rfl, ca, rfl, .inr ⟨_, Rd.of (mh _ _ (mbg _ _ eca))⟩, _, rfl, some (.ref l4), gz, ne_ints e4 el4 ⟨_, rfl, iteF (fin _ mh)⟩⟩
          · rintro σ Hg ⟨y7, rfl, mg'⟩
            exact ⟨_, _, _, _, rfl, mb.trans (mbf.trans mg')⟩
        · rintro σ Hb ⟨y4, y5, y6, y7, rfl, mb⟩
          exact ⟨_, _, _, _, _, _, rfl, m7.trans (m7a.trans mb)⟩
      · rintro σ H7 ⟨y2, y3, y4, y5, y6, y7, rfl, m7⟩
        exact ⟨y2, y3, y4, y5, y6, y7, rfl, m06.trans m7⟩
    rintro σ H6 ⟨y2, y3, y4, y5, y6, y7, rfl, m6⟩
    exact q _ m6
theorem sc_lrf : FnScope ["store", "number", "e"] ["store", "number"] (defScope sLRefused) := ⟨rfl, rfl, rfl, by decide +kernel, rfl, by decide +kernel, by decide +kernel⟩
theorem ok_lrf {f : Addr} {fd : FuncData} {CS CD CC CR C fI : Addr} {CV fIV : Addr} {fA : Addr} {fdA : FuncData} (F : Fun K "_law_refused" "_law_refused" sLRefused f fd) (M : Nm mg) (T : KC K CS fI SFf) (EV : ErrC K CV fIV "InvalidVersion") (gE : mg "InvalidVersion" = some (.ref CV)) (ex : PySem.W.exmOne K (.ref CV) (.ref CV) = some true) (GA : FnOk P w K mg base (L2.CX P w) 4 fA fdA ["self", "version"] (spArsX CS CD CC CR C CV)) (mA : Meth K CS "arrays" fA) (bA : Binds K fdA ["self", "version"] []) : FnOk P w K mg base CX0 5 f fd ["store", "number"] (spLRf CS CD CC CR C) := by
  refine F.ok sc_lrf (fun vs H Q E h => ?_) (fun cdv A outer s0 H vs Q E hr h => ?_)
  · obtain ⟨s, d, st, p, up, da, rs, v, rfl, h, nv, q⟩ := h
    rfl
  · obtain ⟨s, d, st, p, up, da, rs, v, rfl, h, nv, q⟩ := h
    refine ⟨_, (pss_cons (ps_try_as (i := 2) (Wout := fun _ _ _ _ => False) rfl rfl sc_lrf.nd rfl rfl ⟨rfl, by decide, Or.inl gE⟩ takes0
      (fun W pn xe tk _ => pss_one (ps_expr (pe_methX (pv 0) T.cl mA GA (hr.mono (j := 4) (by decide)) bA (fun σ => passAt tk σ) (pa_cons (pv 1) pa_nil))))
      (fun a oe cls d pn hz hf => pss_one (ps_ret (pe_cmpR op_eq (pe_xf EV.xf EV.noP hz hf (pv 2)) (pv 1) (nomark _)))))
      (pss_one (ps_ret pe_bl))), ?_⟩
    obtain ⟨dx, ra, y, hi, hrt, hvs⟩ := h.i
    refine ⟨_, rfl, s, dx, _, rfl, hi, rfl, _, rfl, s, d, st, p, up, da, rs, v, rfl, h, fun r hr1 e => absurd (List.mem_map.mpr ⟨r, hr1, e⟩) nv, fun _ H' x m n he => ?_⟩
    refine ⟨true, ex, fun _ e0 ne0 => ?_, fun z => Bool.noConfusion z⟩
    refine ⟨_, rfl, rfl, rfl, x, _, .int v, rfl, he, (lk_pl v), _, rfl, rfl, ?_⟩
    show Q (.bl (decide (V.int v = V.int v))) H'
    rw [decide_eq_true rfl]
    exact q _ m
end
end K2

namespace K2
open PySem L2
/-! ### what the law has put is good -/
theorem nms_len : ∀ n ∈ NMS, n.length ≤ 4 := by decide +kernel
structure LwA (r : Ar) : Prop where
  sh : DrSh r.ds r.ts
  cs : (r.cs.map (·.c)).Sublist (rowsF r.ds)
  l : r.cs.length ≤ 6
  ck : ∀ c ∈ r.cs, (0 ≤ c.o ∧ c.o < 4294967296) ∧ 0 ≤ c.l ∧ c.l < 4294967296
structure LwM (D : List Int) (rs : List Ve) : Prop where
  no : ∀ (i : Nat) (h : i < rs.length), rs[i].no = (i : Int) + 1
  dr : ∀ r ∈ rs, DrMs (r.as.map (vw D))
  ok : OkV D rs
  n : rs.length ≤ 8
  l : D.length ≤ rs.length * 600
theorem lwCs {r : Ar} (h : LwA r) : GCs r.ds r.cs ∧ ∀ c ∈ r.cs, c.c.length ≤ 2 := by
  have g := drSh h.sh
  have l2 := (drSh_len h.sh).1
  obtain ⟨asc, row⟩ := rowsF_ok r.ds r.ds.length (Nat.le_refl _)
  rw [List.take_length] at asc row
  have hs := h.cs
  have h6 := h.l
  have mem : ∀ c ∈ r.cs, c.c ∈ rowsF r.ds := fun c hc => hs.subset (List.mem_map.mpr ⟨c, hc, rfl⟩)
  refine ⟨⟨by omega, fun c hc => ?_, fun i hi => ?_⟩, fun c hc => by rw [(row _ (mem c hc)).1]; exact l2⟩
  · obtain ⟨r1, r2⟩ := row _ (mem c hc)
    obtain ⟨b1, b2⟩ := h.ck c hc
    refine ⟨r1, fun i hi hi2 => ?_, b1, b2⟩
    obtain ⟨k, hk, e⟩ := r2 i hi hi2
    have cc := (cnt_le (h.sh.d _ (List.getElem_mem hi2))).2
    rw [e]
    unfold mx
    omega
  · have pw := List.pairwise_iff_getElem.mp (asc.sublist hs) i (i + 1) (by rw [List.length_map]; omega) (by rw [List.length_map]; exact hi) (Nat.lt_succ_self i)
    rw [List.getElem_map, List.getElem_map] at pw
    exact pw
theorem vw_n (D : List Int) (as : List Ar) : (as.map (vw D)).map Am.n = as.map Ar.n := by
  rw [List.map_map]
  rfl
theorem vw_c (D : List Int) (r : Ar) : (vw D r).cs.map (·.1) = r.cs.map Ck.c := by
  unfold vw
  rw [List.map_map]
  rfl
section
variable {D : List Int} {rs : List Ve}
theorem LwM.d (h : LwM D rs) : D.length ≤ 4800 := by
  have := h.n
  have := h.l
  omega
theorem LwM.nm (h : LwM D rs) {r : Ve} (hr : r ∈ rs) {a : Ar} (ha : a ∈ r.as) : a.n ∈ (["a", "b", "long"] : List Str) :=
  (h.dr r hr).n.subset (by rw [vw_n]; exact List.mem_map.mpr ⟨a, ha, rfl⟩)
theorem LwM.ar (h : LwM D rs) {r : Ve} (hr : r ∈ rs) {a : Ar} (ha : a ∈ r.as) : LwA a := by
  have m := (h.dr r hr).m _ (List.mem_map.mpr ⟨a, ha, rfl⟩)
  refine ⟨m.sh, ?_, ?_, fun c hc => ?_⟩
  · have := m.cs
    rw [vw_c] at this
    exact this
  · have := m.l
    unfold vw at this
    rwa [List.length_map] at this
  · have k := h.ok r hr a ha c hc
    have h1 := k.o
    have h2 := k.l
    have h3 := k.le
    have h4 := h.d
    omega
theorem LwM.len (h : LwM D rs) {r : Ve} (hr : r ∈ rs) : r.as.length ≤ 3 := by
  have := (h.dr r hr).n.length_le
  rw [vw_n, List.length_map] at this
  exact this
theorem abl_nms {n : Str} (h : n ∈ (["a", "b", "long"] : List Str)) : n ∈ NMS := by
  have : ∀ n ∈ (["a", "b", "long"] : List Str), n ∈ NMS := by decide +kernel
  exact this n h
theorem LwM.gas (h : LwM D rs) {r : Ve} (hr : r ∈ rs) : GAs r.as := by
  have l := h.len hr
  refine ⟨by omega, fun a ha => ⟨abl_nms (h.nm hr ha), drSh (h.ar hr ha).sh, (lwCs (h.ar hr ha)).1⟩, fun i hi => ?_⟩
  have sb := (h.dr r hr).n
  rw [vw_n] at sb
  have pw := List.pairwise_iff_getElem.mp (abl_lt.sublist sb) i (i + 1) (by rw [List.length_map]; omega) (by rw [List.length_map]; exact hi) (Nat.lt_succ_self i)
  rw [List.getElem_map, List.getElem_map] at pw
  exact pw
theorem LwM.nos (h : LwM D rs) {r : Ve} (hr : r ∈ rs) : 1 ≤ r.no ∧ r.no ≤ rs.length := by
  obtain ⟨i, hi, rfl⟩ := List.getElem_of_mem hr
  rw [h.no i hi]
  omega
theorem LwM.gv (h : LwM D rs) : GV rs := fun v hv r hr => by
  have g := drSh (h.ar hv hr).sh
  refine ⟨Nat.le_trans (nms_len _ (abl_nms (h.nm hv hr))) (by decide), fun d hd => ⟨Nat.le_trans (nms_len _ (g.d d hd).nm) (by decide)⟩, fun t ht => ⟨Nat.le_trans (nms_len _ (g.t t ht).nm) (by decide), (g.t t ht).k⟩⟩
theorem LwM.grt (h : LwM D rs) : GRt ((rs.length : Int) + 1) 0 rs := by
  have n := h.n
  refine ⟨by omega, by omega, by omega, fun r hr => ⟨(h.nos hr).1, by have := (h.nos hr).2; omega, h.gas hr⟩, fun i hi => ?_⟩
  rw [h.no i (by omega), h.no (i + 1) hi]
  omega
theorem LwM.wfr (h : LwM D rs) : WfR rs := by
  have n := h.n
  refine ⟨List.pairwise_iff_getElem.mpr fun i j hi hj hij => ?_, by omega, fun r hr => ?_⟩
  · rw [List.length_map] at hi hj
    rw [List.getElem_map, List.getElem_map, h.no i hi, h.no j hj]
    omega
  · have w := (h.dr r hr).wf
    refine ⟨(h.nos hr).1, ?_, by have := h.len hr; omega, fun a ha => ?_⟩
    · have := w.nm
      rw [vw_n] at this
      exact this
    · obtain ⟨k1, k2, k3⟩ := w.ck _ (List.mem_map.mpr ⟨a, ha, rfl⟩)
      rw [vw_c] at k1
      refine ⟨k1, fun c hc => k2 _ (List.mem_map.mpr ⟨c, hc, rfl⟩), ?_⟩
      unfold vw at k3
      rwa [List.length_map] at k3
theorem LwM.lwr (h : LwM D rs) : LwR D rs := ⟨h.ok, fun r hr a ha => ⟨(h.ar hr ha).sh.d, (drSh_len (h.ar hr ha).sh).1⟩, fun r hr a ha => h.nm hr ha⟩
end
theorem fm_le {α : Type} (f : α → List Int) (b : Nat) : ∀ (l : List α), (∀ x ∈ l, (f x).length ≤ b) → (l.flatMap f).length ≤ l.length * b
  | [], _ => by simp
  | x :: l, h => by
    rw [List.flatMap_cons, List.length_append, List.length_cons, Nat.succ_mul]
    have h1 := h x List.mem_cons_self
    have h2 := fm_le f b l fun y hy => h y (List.mem_cons_of_mem _ hy)
    omega
theorem wn_len (n : Str) : (wn n).length = n.length + 1 := by
  show (nmo n).length + 1 = _
  rw [nmo_len]
theorem LwM.ert {D : List Int} {rs : List Ve} (h : LwM D rs) (up da : Int) : (eRt up da rs).length ≤ 800000 := by
  have hv : ∀ v ∈ rs, (eVe v).length ≤ 1000 := fun v hv => by
    have la := h.len hv
    have ha : ∀ r ∈ v.as, (eAr r).length ≤ 300 := fun r hr => by
      have hr1 := h.ar hv hr
      have cl := (lwCs hr1).2
      have lc := hr1.l
      have g := drSh hr1.sh
      obtain ⟨ld, lt⟩ := drSh_len hr1.sh
      have hn := nms_len _ (abl_nms (h.nm hv hr))
      have hd := fm_le eD 17 r.ds fun d hd => by
        have := nms_len _ (g.d d hd).nm
        unfold eD
        simp only [List.length_append, wn_len]
        show d.n.length + 1 + 4 + 4 + 4 ≤ 17
        omega
      have ht := fm_le eT 6 r.ts fun t ht => by
        have := nms_len _ (g.t t ht).nm
        unfold eT
        simp only [List.length_append, wn_len]
        show t.n.length + 1 + 1 ≤ 6
        omega
      have hc := fm_le eCk 16 r.cs fun c hc => by
        have h1 := cl c hc
        unfold eCk
        have h2 := fm_le w4 4 (c.c ++ [c.o, c.l]) fun x _ => Nat.le_refl 4
        rw [List.length_append] at h2
        have e2 : [c.o, c.l].length = 2 := rfl
        omega
      unfold eAr eSh eCs
      simp only [List.length_append, wn_len]
      have e1 : [(r.ds.length : Int)].length = 1 := rfl
      have e2 : [(r.ts.length : Int)].length = 1 := rfl
      have e3 : (w4 (r.cs.length : Int)).length = 4 := rfl
      omega
    have := fm_le eAr 300 v.as ha
    unfold eVe
    simp only [List.length_append]
    have e1 : (w4 v.no).length = 4 := rfl
    have e2 : (w4 (v.as.length : Int)).length = 4 := rfl
    omega
  have := fm_le eVe 1000 rs hv
  have l3 := h.n
  unfold eRt
  simp only [List.length_append]
  have e1 : (w4 up).length = 4 := rfl
  have e2 : (w4 da).length = 4 := rfl
  have e3 : (w4 (rs.length : Int)).length = 4 := rfl
  have e4 : ([77, 83] : List Int).length = 2 := rfl
  omega
/-! ### what a version costs -/
theorem sum_le {α : Type} (f : α → Nat) (b : Nat) : ∀ (l : List α), (∀ x ∈ l, f x ≤ b) → (l.map f).sum ≤ l.length * b
  | [], _ => by simp
  | x :: l, h => by
    rw [List.map_cons, List.sum_cons, List.length_cons, Nat.succ_mul]
    have h1 := h x List.mem_cons_self
    have h2 := sum_le f b l fun y hy => h y (List.mem_cons_of_mem _ hy)
    omega
theorem cost_le {D : List Int} {rs : List Ve} {ms : List Am} (h : DrMs ms) : cost D rs ms ≤ 600 := by
  have l3 := h.n.length_le
  rw [List.length_map] at l3
  have l3 : ms.length ≤ 3 := l3
  have := sum_le (costA D rs) 48 ms fun m hm => by
    have l6 := (h.m m hm).l
    have := sum_le (costC D rs m.n) 8 m.cs fun c hc => by
      have := (h.m m hm).o c hc
      unfold costC
      split <;> omega
    unfold costA
    omega
  unfold cost
  omega
def oldC (bs : List Am) (n : Str) (pl : List Int) : Option (List Int) := (bs.find? fun m => decide (m.n = n)).bind fun m => (m.cs.find? fun c => decide (c.1 = pl)).map (·.2)
theorem oldC_is (D : List Int) (rs : List Ve) (n : Str) (pl : List Int) : oldC ((lastAs rs).map (vw D)) n pl = (lookC rs n pl).map (recO D) := by
  unfold oldC lookC
  rw [List.find?_map]
  cases e : (lastAs rs).find? fun r => decide (r.n = n) with
  | none =>
    have : (lastAs rs).find? ((fun m : Am => decide (m.n = n)) ∘ vw D) = none := e
    rw [this]
    rfl
  | some r =>
    have : (lastAs rs).find? ((fun m : Am => decide (m.n = n)) ∘ vw D) = some r := e
    rw [this]
    show Option.map (·.2) ((r.cs.map fun c => (c.c, recO D c)).find? fun c => decide (c.1 = pl)) = _
    rw [List.find?_map]
    show _ = Option.map (recO D) (r.cs.find? fun c => decide (c.c = pl))
    cases e2 : r.cs.find? fun c => decide (c.c = pl) with
    | none =>
      have : r.cs.find? ((fun c : List Int × List Int => decide (c.1 = pl)) ∘ fun c => (c.c, recO D c)) = none := e2
      rw [this]
      rfl
    | some c =>
      have : r.cs.find? ((fun c : List Int × List Int => decide (c.1 = pl)) ∘ fun c => (c.c, recO D c)) = some c := e2
      rw [this]
      rfl
theorem costC_is (D : List Int) (rs : List Ve) (n : Str) (c : List Int × List Int) : costC D rs n c = if oldC ((lastAs rs).map (vw D)) n c.1 = some c.2 then 0 else 4 + c.2.length := by
  rw [oldC_is]
  unfold costC again
  cases lookC rs n c.1 with
  | none => rfl
  | some k =>
    show (if (if recO D k = c.2 then some k else none) = none then 4 + c.2.length else 0) = if some (recO D k) = some c.2 then 0 else 4 + c.2.length
    by_cases z : recO D k = c.2
    · rw [if_pos z, if_neg (fun y => nomatch y), if_pos (by rw [z])]
    · rw [if_neg z, if_pos rfl, if_neg (fun y => z (Option.some.inj y))]
/-! ### a step of the law -/
theorem LwM.step {D X : List Int} {rs : List Ve} {as : List Ar} {ms : List Am} (h : LwM D rs) (n : rs.length < 8) (dm : DrMs ms) (e : as.map (vw (D ++ X)) = ms) (lx : X.length = cost D rs ms) (ok : ∀ r ∈ as, ∀ c ∈ r.cs, Okc (D ++ X) c) : LwM (D ++ X) (rs ++ [⟨(rs.length : Int) + 1, as⟩]) := by
  have vwe : ∀ r ∈ rs, r.as.map (vw (D ++ X)) = r.as.map (vw D) := fun r hr => List.map_congr_left fun a ha => by
    unfold vw
    congr 1
    exact List.map_congr_left fun c hc => by rw [recO_app (h.ok r hr a ha c hc)]
  refine ⟨fun i hi => ?_, fun r hr => ?_, fun r hr a ha c hc => ?_, ?_, ?_⟩
  · by_cases z : i < rs.length
    · rw [List.getElem_append_left z]
      exact h.no i z
    · have : i = rs.length := by rw [List.length_append] at hi; have e1 : ([⟨(rs.length : Int) + 1, as⟩] : List Ve).length = 1 := rfl; omega
      subst this
      rw [List.getElem_append_right (Nat.le_refl _)]
      simp
  · rcases List.mem_append.mp hr with z | z
    · rw [vwe r z]
      exact h.dr r z
    · rw [List.mem_singleton.mp z]
      show DrMs (as.map (vw (D ++ X)))
      rw [e]
      exact dm
  · rcases List.mem_append.mp hr with z | z
    · exact (h.ok r z a ha c hc).app
    · rw [List.mem_singleton.mp z] at ha
      exact ok a ha c hc
  · rw [List.length_append]
    exact n
  · have := cost_le (D := D) (rs := rs) dm
    have l := h.l
    rw [List.length_append, List.length_append]
    have e1 : ([⟨(rs.length : Int) + 1, as⟩] : List Ve).length = 1 := rfl
    omega
theorem mdl_step {D X : List Int} {rs : List Ve} {as : List Ar} (h : OkV D rs) (no : Int) : mdl (D ++ X) (rs ++ [⟨no, as⟩]) = mdl D rs ++ [(no, as.map (vw (D ++ X)))] := by
  unfold mdl
  rw [List.map_append]
  congr 1
  exact List.map_congr_left fun r hr => by
    congr 1
    exact List.map_congr_left fun a ha => by
      unfold vw
      congr 1
      exact List.map_congr_left fun c hc => by rw [recO_app (h r hr a ha c hc)]
theorem last_step (rs : List Ve) (v : Ve) : lastAs (rs ++ [v]) = v.as := by
  unfold lastAs
  rw [List.getLast?_append]
  rfl
theorem LwM.nil : LwM [] [] := ⟨fun i h => absurd h (Nat.not_lt_zero _), (fun r h => by cases h), (fun r h => by cases h), Nat.zero_le _, Nat.zero_le _⟩
end K2

namespace K2
open PySem L2
/-! ### the same, but for dicts that are frozen -/
def Fz (H H' : Hp) : Prop := ∀ a o, H a = some o → H' a = some o ∨ ((∃ od, H' a = some (.frz od o)) ∧ ((∃ k, o = .dK k) ∨ ∃ k, o = .dT k))
section
variable {H H1 H2 : Hp}
theorem Fz.refl : Fz H H := fun _ _ e => .inl e
theorem Fz.same (f : Fz H H1) (m : Same H1 H2) : Fz H H2 := fun a o e => by
  rcases f a o e with z | ⟨⟨od, z⟩, k⟩
  · exact .inl (m _ _ z)
  · exact .inr ⟨⟨od, m _ _ z⟩, k⟩
theorem Fz.lock (f : Fz H H1) {b : Addr} {u : HO} {od : Obj} (e : H1 b = some u) (k : (∃ k, u = .dK k) ∨ ∃ k, u = .dT k) : Fz H (upd H1 b (.frz od u)) := fun a o ea => by
  by_cases z : a = b
  · subst z
    rcases f a o ea with y | ⟨⟨od', y⟩, k'⟩
    · rw [e] at y
      cases y
      exact .inr ⟨⟨od, upd_same⟩, k⟩
    · rw [e] at y
      cases y
      rcases k with ⟨_, k⟩ | ⟨_, k⟩ <;> cases k
  · rw [upd_ne z]
    exact f a o ea
theorem Fz.lst (f : Fz H H1) {a : Addr} {xs : List V} (e : H a = some (.lst xs)) : H1 a = some (.lst xs) := by
  rcases f a _ e with z | ⟨_, ⟨_, k⟩ | ⟨_, k⟩⟩
  · exact z
  · cases k
  · cases k
theorem Fz.tup (f : Fz H H1) {a : Addr} {xs : List V} (e : H a = some (.tup xs)) : H1 a = some (.tup xs) := by
  rcases f a _ e with z | ⟨_, ⟨_, k⟩ | ⟨_, k⟩⟩
  · exact z
  · cases k
  · cases k
theorem Fz.ins (f : Fz H H1) {a C dx : Addr} {fs : List (Str × V)} (e : H a = some (.ins C dx fs)) : H1 a = some (.ins C dx fs) := by
  rcases f a _ e with z | ⟨_, ⟨_, k⟩ | ⟨_, k⟩⟩
  · exact z
  · cases k
  · cases k
theorem Fz.rdK (f : Fz H H1) {a : Addr} {k : List (Key × V)} (e : H a = some (.dK k)) : Rd H1 a (.dK k) := by
  rcases f a _ e with z | ⟨⟨od, z⟩, _⟩
  · exact .inl z
  · exact .inr ⟨od, z⟩
theorem Fz.rdT (f : Fz H H1) {a : Addr} {k : List (List Key × V)} (e : H a = some (.dT k)) : Rd H1 a (.dT k) := by
  rcases f a _ e with z | ⟨⟨od, z⟩, _⟩
  · exact .inl z
  · exact .inr ⟨od, z⟩
end
theorem DkM.rd {α : Type} {H H1 : Hp} {key : α → Key} {R : V → α → Prop} {a : Addr} {l : List α} (h : DkM H key R (.ref a) l) (f : Fz H H1) (nd : (l.map key).Nodup) {x : α} (hx : x ∈ l) : ∃ y, DGet H1 a (kV (key x)) (some y) ∧ R y x := by
  obtain ⟨a', xs, e, ea, al⟩ := h
  obtain rfl := V.ref.inj e
  obtain ⟨i, hi, rfl⟩ := List.getElem_of_mem hx
  obtain ⟨y, ey, r⟩ := al.2 i _ (List.getElem?_eq_getElem hi)
  exact ⟨y, .inl ⟨_, key l[i], f.rdK ea, rfl, (zip_get nd al.1 (List.getElem?_eq_getElem hi) ey).symm⟩, r⟩
theorem DkM.rdNo {α : Type} {H H1 : Hp} {key : α → Key} {R : V → α → Prop} {a : Addr} {l : List α} (h : DkM H key R (.ref a) l) (f : Fz H H1) {k : Key} (n : k ∉ l.map key) : DGet H1 a (kV k) none := by
  obtain ⟨a', xs, e, ea, al⟩ := h
  obtain rfl := V.ref.inj e
  exact .inl ⟨_, k, f.rdK ea, rfl, (zip_none n).symm⟩
theorem DtM.rd {α : Type} {H H1 : Hp} {key : α → List Key} {R : V → α → Prop} {a b : Addr} {l : List α} (h : DtM H key R (.ref a) l) (f : Fz H H1) (nd : (l.map key).Nodup) {x : α} (hx : x ∈ l) (hb : H1 b = some (.tup ((key x).map kV))) : ∃ y, DGet H1 a (.ref b) (some y) ∧ R y x := by
  obtain ⟨a', xs, e, ea, al⟩ := h
  obtain rfl := V.ref.inj e
  obtain ⟨i, hi, rfl⟩ := List.getElem_of_mem hx
  obtain ⟨y, ey, r⟩ := al.2 i _ (List.getElem?_eq_getElem hi)
  exact ⟨y, .inr ⟨_, key l[i], b, f.rdT ea, rfl, hb, (zip_get nd al.1 (List.getElem?_eq_getElem hi) ey).symm⟩, r⟩
theorem DtM.rdNo {α : Type} {H H1 : Hp} {key : α → List Key} {R : V → α → Prop} {a b : Addr} {l : List α} {k : List Key} (h : DtM H key R (.ref a) l) (f : Fz H H1) (n : k ∉ l.map key) (hb : H1 b = some (.tup (k.map kV))) : DGet H1 a (.ref b) none := by
  obtain ⟨a', xs, e, ea, al⟩ := h
  obtain rfl := V.ref.inj e
  exact .inr ⟨_, k, b, f.rdT ea, rfl, hb, (zip_none n).symm⟩
/-- what stood at a place before -/
theorem old_get {H1 Hc : Hp} {C lb : Addr} {bs : List Am} (f : Fz H1 Hc) (hb : AmsD H1 C (.ref lb) bs) (db : DrMs bs) (n : Str) :
    (DGet Hc lb (.str n) none ∧ ∀ pl, oldC bs n pl = none) ∨ ∃ (tb od : Addr) (u : V), DGet Hc lb (.str n) (some (.ref tb)) ∧ Hc tb = some (.tup [u, .ref od]) ∧ ∀ (pl : List Int) (q : Addr), Hc q = some (.tup (pl.map V.int)) → ∃ r, DGet Hc od (.ref q) r ∧ ((r = none ∧ oldC bs n pl = none) ∨ ∃ (l : Addr) (os : List Int), r = some (.ref l) ∧ Hc l = some (.lst (os.map V.int)) ∧ oldC bs n pl = some os) := by
  by_cases hm : n ∈ bs.map Am.n
  · obtain ⟨m, mm, rfl⟩ := List.mem_map.mp hm
    obtain ⟨w0, g, tb, u, w1, rfl, etb, hsh, hcs⟩ := hb.rd f db.wf.nd mm
    obtain ⟨od, rfl⟩ := hcs.ref
    have e1 : (bs.find? fun x => decide (x.n = m.n)) = some m := find_is db.wf.nm.1 mm
    refine .inr ⟨tb, od, u, g, f.tup etb, fun pl q hq => ?_⟩
    by_cases hp : pl ∈ m.cs.map (·.1)
    · obtain ⟨c, hc, rfl⟩ := List.mem_map.mp hp
      obtain ⟨z, gz, l, rfl, el⟩ := DtM.rd (b := q) hcs f (asc_ndm (db.m m mm).wf.1) hc (by rw [kI_v]; exact hq)
      have nd : (m.cs.map (·.1)).Nodup := by
        have h0 := asc_ndm (db.m m mm).wf.1
        rw [show (fun c : List Int × List Int => kI c.1) = kI ∘ (·.1) from rfl, ← List.map_map] at h0
        exact (List.pairwise_map.mp h0).imp fun h e => h (by rw [e])
      have e2 : (m.cs.find? fun x => decide (x.1 = c.1)) = some c := find_is (f := fun x : List Int × List Int => x.1) nd hc
      refine ⟨_, gz, .inr ⟨l, c.2, rfl, f.lst el, ?_⟩⟩
      unfold oldC
      rw [e1]
      show Option.map (·.2) (m.cs.find? fun x => decide (x.1 = c.1)) = _
      rw [e2]
      rfl
    · have gz := DtM.rdNo (b := q) (k := kI pl) hcs f (fun z => by
        obtain ⟨c, hc, e⟩ := List.mem_map.mp z
        exact hp (List.mem_map.mpr ⟨c, hc, kI_inj e⟩)) (by rw [kI_v]; exact hq)
      refine ⟨_, gz, .inl ⟨rfl, ?_⟩⟩
      unfold oldC
      rw [e1]
      show Option.map (·.2) (m.cs.find? fun x => decide (x.1 = pl)) = _
      rw [List.find?_eq_none.mpr fun c hc => by
        simp only [decide_eq_true_eq]
        exact fun z => hp (List.mem_map.mpr ⟨c, hc, z⟩)]
      rfl
  · refine .inl ⟨hb.rdNo (k := Sum.inr n) f (fun z => by
      obtain ⟨m, mm, e⟩ := List.mem_map.mp z
      exact hm (List.mem_map.mpr ⟨m, mm, Sum.inr.inj e⟩)), fun pl => ?_⟩
    unfold oldC
    rw [List.find?_eq_none.mpr fun m hm' => by
      simp only [decide_eq_true_eq]
      exact fun z => hm (List.mem_map.mpr ⟨m, hm', z⟩)]
    rfl
/-! ### what the turns keep -/
def fLw (s d : Addr) (p : DP) (n : Nat) (S lm : Addr) (a : Addr) : Prop := ftS s d p n a ∨ (a = S ∨ a = lm)
structure LI (CS CD CC CR C : Addr) (K : PySem.W.Frag) (H : Hp) (S scr d s lm lb : Addr) (ns : List Int) (st : DS) (p : DP) (D : List Int) (rs : List Ve) : Prop where
  k : StAt CS CD CC CR C H s d st p ((rs.length : Int) + 1) 0 rs
  kg : StG CS CR C H s d p st.cs.length (fun a => a = S ∨ a = lm) ((rs.length : Int) + 1) 0 rs
  q : Quiet st
  ro : RootIs st ((rs.length : Int) + 1) 0 rs
  lw : LwM D rs
  rd : (st.rd (dN 0)).getD [] = D
  r0 : D = [] → st.rd (dN 0) = none
  rn : st.rd "root.new" = none
  fl : ∀ n, st.rd n ≠ none → n = "root" ∨ n = dN 0
  rt : st.rd "root" = none ↔ rs = []
  fS : ¬ ftS s d p st.cs.length S
  fM : ¬ ftS s d p st.cs.length lm
  aS : SAt H S
  md : ∃ xs, H lm = some (.dK (((mdl D rs).map fun m : Int × List Am => (Sum.inl m.1 : Key)).zip xs)) ∧ All (fun y m => AmsD (hid (fLw s d p st.cs.length S lm) H) C y m.2) xs (mdl D rs)
  bf : AmsD (hid (fLw s d p st.cs.length S lm) H) C (.ref lb) ((lastAs rs).map (vw D))
  sc : SqL K (hid (fLw s d p st.cs.length S lm) H) scr (ns.map V.int)
section
variable {CS CD CC CR C : Addr} {K : PySem.W.Frag} {H H' : Hp} {S scr d s lm lb : Addr} {ns : List Int} {st : DS} {p : DP} {D : List Int} {rs : List Ve}
theorem LI.db (h : LI CS CD CC CR C K H S scr d s lm lb ns st p D rs) : DrMs ((lastAs rs).map (vw D)) := by
  unfold lastAs
  cases e : rs.getLast? with
  | none => exact ⟨List.nil_sublist _, fun m hm => by cases hm⟩
  | some r => exact h.lw.dr r (List.mem_of_getLast? e)
theorem LI.nSM (h : LI CS CD CC CR C K H S scr d s lm lb ns st p D rs) : S ≠ lm := fun z => by
  obtain ⟨x, y, e⟩ := h.aS
  obtain ⟨xs, e2, _⟩ := h.md
  rw [z, e2] at e
  cases e
theorem LI.occ (h : LI CS CD CC CR C K H S scr d s lm lb ns st p D rs) : ∀ a, fLw s d p st.cs.length S lm a → H a ≠ none := fun a f => by
  rcases f with f | rfl | rfl
  · exact h.k.occ a f
  · obtain ⟨x, y, e⟩ := h.aS
    rw [e]
    exact fun z => nomatch z
  · obtain ⟨xs, e2, _⟩ := h.md
    rw [e2]
    exact fun z => nomatch z
theorem LI.kinds (h : LI CS CD CC CR C K H S scr d s lm lb ns st p D rs) (N : Neq CS CD CC CR C) : ∀ a, fLw s d p st.cs.length S lm a → ∀ o, H a = some o → Knd CR C o := fun a f o e => by
  rcases f with (f | rfl) | rfl | rfl
  · exact h.k.k.kinds N.n1 N.n2 N.n3 N.n4 a f o e
  · obtain ⟨dx, ra, y, e2, _⟩ := h.k.i
    rw [e2] at e
    cases e
    exact ⟨(fun _ z => nomatch z), (fun _ _ z => by injection z with z; exact N.n5 z), fun _ _ z => by injection z with z; exact N.n6 z⟩
  · obtain ⟨x, y, e2⟩ := h.aS
    rw [e2] at e
    cases e
    exact ⟨(fun _ z => nomatch z), (fun _ _ z => nomatch z), fun _ _ z => nomatch z⟩
  · obtain ⟨xs, e2, _⟩ := h.md
    rw [e2] at e
    cases e
    exact ⟨(fun _ z => nomatch z), (fun _ _ z => nomatch z), fun _ _ z => nomatch z⟩
theorem LI.gok (h : LI CS CD CC CR C K H S scr d s lm lb ns st p D rs) (N : Neq CS CD CC CR C) : GOk CR C H s d p st.cs.length (fun a => a = S ∨ a = lm) := fun a f => by
  cases e : H a with
  | none => exact absurd e (h.occ a (.inr f))
  | some o =>
    refine ⟨fun z => ?_, o, rfl, h.kinds N a (.inr f) o e⟩
    rcases f with rfl | rfl
    · exact h.fS z
    · exact h.fM z
theorem LI.ex (h : LI CS CD CC CR C K H S scr d s lm lb ns st p D rs) (x : Ex H H' S) (t : SAt H' S) : LI CS CD CC CR C K H' S scr d s lm lb ns st p D rs := by
  have hs : Same (hid (fLw s d p st.cs.length S lm) H) (hid (fLw s d p st.cs.length S lm) H') := hid_ex (.inr (.inl rfl)) x
  obtain ⟨dx, ra, y, e, r, v⟩ := h.kg
  have r' := r.same hs
  have v' := v.same hs
  have nsS : s ≠ S := fun z => h.fS (.inr z.symm)
  obtain ⟨xs, e2, al⟩ := h.md
  refine ⟨⟨⟨dx, ra, y, x _ _ e nsS, r'.same (hid_le fun a f => .inl f), v'.same (hid_le fun a f => .inl f)⟩, h.k.k.keep fun a o ea f => x _ _ ea fun z => ?_, h.k.n, h.k.g, h.k.b, h.k.w⟩, ⟨dx, ra, y, x _ _ e nsS, r', v'⟩, h.q, h.ro, h.lw, h.rd, h.r0, h.rn, h.fl, h.rt, h.fS, h.fM, t, ⟨xs, x _ _ e2 h.nSM.symm, al.imp fun _ _ z => AmsD.same z hs⟩, h.bf.same hs, SqL.keepS h.sc fun o e => hs _ _ e⟩
  rcases f with f | ⟨r, f⟩
  · exact h.fS (.inl (z ▸ f))
  · obtain ⟨i, j, eS⟩ := h.aS
    rw [z, eS, f] at ea
    cases ea
theorem LI.same (h : LI CS CD CC CR C K H S scr d s lm lb ns st p D rs) (m : Same H H') : LI CS CD CC CR C K H' S scr d s lm lb ns st p D rs := by
  refine h.ex (Same.ex m) ?_
  obtain ⟨i, j, eS⟩ := h.aS
  exact ⟨i, j, m _ _ eS⟩
theorem LI.sq0 (h : LI CS CD CC CR C K H S scr d s lm lb ns st p D rs) : ∀ H', Ex H H' S → SqL K H' scr (ns.map V.int) := fun H' x => sq_ex (F := fLw s d p st.cs.length S lm) (.inr (.inl rfl)) h.sc x
theorem LI.mdD (h : LI CS CD CC CR C K H S scr d s lm lb ns st p D rs) : MdD H C (.ref lm) (mdl D rs) := by
  obtain ⟨xs, e, al⟩ := h.md
  exact ⟨lm, xs, rfl, e, al.imp fun _ _ z => AmsD.same z (hid_same _ _)⟩
end
end K2

namespace K2
open PySem L2
section
variable {CS CD CC CR C : Addr} {K : PySem.W.Frag} {H H' : Hp} {S scr d s lm lb : Addr} {ns : List Int} {st : DS} {p : DP} {D : List Int} {rs : List Ve}
/-- a turn: what is put stands in the model too -/
theorem LI.put (h : LI CS CD CC CR C K H S scr d s lm lb ns st p D rs) (N : Neq CS CD CC CR C) (n8 : rs.length < 8) {ya : Addr} {ms : List Am} (hz : AmsD (hid (fLw s d p st.cs.length S lm) H) C (.ref ya) ms) (dz : DrMs ms) {p' : DP} {st' : DS} {as : List Ar} {X : List Int}
    (ss : SSt H H' s d st st' p p') (S' : StAt CS CD CC CR C H' s d st' p' ((rs.length : Int) + 1 + 1) 0 (rs ++ [⟨(rs.length : Int) + 1, as⟩])) (G' : StG CS CR C H' s d p' st'.cs.length (fun a => a = S ∨ a = lm) ((rs.length : Int) + 1 + 1) 0 (rs ++ [⟨(rs.length : Int) + 1, as⟩])) (qu : Quiet st')
    (rt : st'.rd "root" = some (eRt ((rs.length : Int) + 1 + 1) 0 (rs ++ [⟨(rs.length : Int) + 1, as⟩]) ++ w4 (sumO (eRt ((rs.length : Int) + 1 + 1) 0 (rs ++ [⟨(rs.length : Int) + 1, as⟩]))))) (ro : ∀ m : Str, m ≠ "root" → m ≠ dN 0 → st'.rd m = st.rd m) (rd : (st'.rd (dN 0)).getD [] = D ++ X) (x0 : X = [] → st'.rd (dN 0) = st.rd (dN 0))
    (ev : as.map (vw (D ++ X)) = ms) (ok : ∀ r ∈ as, ∀ c ∈ r.cs, Okc (D ++ X) c) (lX : X.length = cost D rs ms) :
    ∃ kvs, H' lm = some (.dK kvs) ∧ kvs.length < 1000 ∧ LI CS CD CC CR C K (upd H' lm (.dK (putK kvs (Sum.inl ((rs.length : Int) + 1)) (.ref ya)))) S scr d s lm ya ns st' p' (D ++ X) (rs ++ [⟨(rs.length : Int) + 1, as⟩]) := by
  have L := h.lw.step n8 dz ev lX ok
  have g2 := (h.gok N).sst ss
  have fS' := (g2 S (.inl rfl)).1
  have fM' := (g2 lm (.inr rfl)).1
  obtain ⟨xs, em, al⟩ := h.md
  have em' := ss.o _ _ em h.fM
  obtain ⟨i, j, eS⟩ := h.aS
  have eS' := ss.o _ _ eS h.fS
  have len : ((rs ++ [(⟨(rs.length : Int) + 1, as⟩ : Ve)]).length : Int) = (rs.length : Int) + 1 := by
    rw [List.length_append]
    rfl
  have lm8 : (mdl D rs).length = rs.length := by
    unfold mdl
    rw [List.length_map]
  refine ⟨_, em', by rw [zip_len al.1, lm8]; omega, ?_⟩
  have nk : (Sum.inl ((rs.length : Int) + 1) : Key) ∉ (mdl D rs).map fun m : Int × List Am => (Sum.inl m.1 : Key) := fun z => by
    obtain ⟨m, hm, e⟩ := List.mem_map.mp z
    obtain ⟨r, hr, rfl⟩ := List.mem_map.mp hm
    have e : r.no = (rs.length : Int) + 1 := Sum.inl.inj e
    have := (h.lw.nos hr).2
    omega
  have zp := zip_push (key := fun m : Int × List Am => (Sum.inl m.1 : Key)) (a := (((rs.length : Int) + 1, ms) : Int × List Am)) (x := V.ref ya) al.1 nk
  obtain ⟨H2, eH2⟩ : ∃ H2, H2 = upd H' lm (.dK (putK (((mdl D rs).map fun m : Int × List Am => (Sum.inl m.1 : Key)).zip xs) (Sum.inl ((rs.length : Int) + 1)) (.ref ya))) := ⟨_, rfl⟩
  have k2 : ∀ a o, H' a = some o → a ≠ lm → H2 a = some o := fun a o e n => by rw [eH2, upd_ne n]; exact e
  have em2 : H2 lm = some (.dK (((mdl D rs ++ [(((rs.length : Int) + 1, ms) : Int × List Am)]).map fun m : Int × List Am => (Sum.inl m.1 : Key)).zip (xs ++ [V.ref ya]))) := by
    rw [eH2, upd_same]
    exact congrArg (fun z => some (HO.dK z)) zp
  rw [← eH2]
  have hG : Same (hid (fun a => ftS s d p' st'.cs.length a ∨ (a = S ∨ a = lm)) H') (hid (fLw s d p' st'.cs.length S lm) H2) := fun a o e => by
    obtain ⟨n, e⟩ := hid_some e
    exact hid_mk n (k2 _ _ e fun z => n (.inr (.inr z)))
  have hF : Same (hid (fLw s d p st.cs.length S lm) H) (hid (fLw s d p' st'.cs.length S lm) H2) := fun a o e => by
    obtain ⟨n, e⟩ := hid_some e
    have n1 : ¬ ftS s d p st.cs.length a := fun z => n (.inl z)
    refine hid_mk (fun z => ?_) (k2 _ _ (ss.o _ _ e n1) fun z => n (.inr (.inr z)))
    rcases z with z | z
    · rcases ss.w a z with y | y
      · exact n1 y
      · rw [y] at e; cases e
    · exact n (.inr z)
  obtain ⟨dx, ra, y, e, r, v⟩ := G'
  have nsl : s ≠ lm := fun z => fM' (.inr z.symm)
  have e2 := k2 _ _ e nsl
  have r2 := r.same hG
  have v2 := v.same hG
  have dk2 : DkAt CD CC H2 d st' p' := S'.k.keep fun a o ea f => k2 _ _ ea fun z => by
    rcases f with f | ⟨r, f⟩
    · exact fM' (.inl (z ▸ f))
    · rw [z, em', f] at ea
      cases ea
  have hz2 := hz.same hF
  have up2 : ((rs ++ [(⟨(rs.length : Int) + 1, as⟩ : Ve)]).length : Int) + 1 = (rs.length : Int) + 1 + 1 := by rw [len]
  have nS : S ≠ lm := h.nSM
  constructor
  · rw [up2]
    exact ⟨⟨dx, ra, y, e2, r2.same (hid_le fun a f => .inl f), v2.same (hid_le fun a f => .inl f)⟩, dk2, S'.n, S'.g, S'.b, S'.w⟩
  · rw [up2]
    exact ⟨dx, ra, y, e2, r2, v2⟩
  · exact qu
  · have g := L.grt
    rw [up2] at g ⊢
    exact .inr ⟨rt, g⟩
  · exact L
  · exact rd
  · intro z
    obtain ⟨z1, z2⟩ := List.append_eq_nil_iff.mp z
    rw [x0 z2]
    exact h.r0 z1
  · rw [ro "root.new" root_new.symm (dn_of ⟨by decide, by decide⟩).2.2.2.1.symm]
    exact h.rn
  · intro n hn
    by_cases z1 : n = "root"
    · exact .inl z1
    by_cases z2 : n = dN 0
    · exact .inr z2
    rw [ro n z1 z2] at hn
    exact h.fl n hn
  · rw [rt]
    exact ⟨(fun z => nomatch z), fun z => absurd (List.append_eq_nil_iff.mp z).2 (List.cons_ne_nil _ _)⟩
  · exact fS'
  · exact fM'
  · exact ⟨i, j, k2 _ _ eS' nS⟩
  · rw [mdl_step h.lw.ok, ev]
    exact ⟨_, em2, All.push (al.imp fun _ _ z => AmsD.same z hF) hz2⟩
  · rw [last_step]
    show AmsD _ _ _ (as.map (vw (D ++ X)))
    rw [ev]
    exact hz2
  · exact SqL.keepS h.sc fun o e => hF _ _ e
/-- the store is opened anew -/
theorem LI.reopen (h : LI CS CD CC CR C K H S scr d s lm lb ns st p D rs) (m : Same H H') {s2 : Addr} (n2 : H s2 = none) (S' : StAt CS CD CC CR C H' s2 d st p ((rs.length : Int) + 1) 0 rs) (G' : StG CS CR C H' s2 d p st.cs.length (fun a => a = S ∨ a = lm) ((rs.length : Int) + 1) 0 rs) : LI CS CD CC CR C K H' S scr d s2 lm lb ns st p D rs := by
  have hF : Same (hid (fLw s d p st.cs.length S lm) H) (hid (fLw s2 d p st.cs.length S lm) H') := fun a o e => by
    obtain ⟨n, e⟩ := hid_some e
    refine hid_mk (fun z => ?_) (m _ _ e)
    rcases z with (z | z) | z
    · exact n (.inl (.inl z))
    · rw [z, n2] at e; cases e
    · exact n (.inr z)
  obtain ⟨i, j, eS⟩ := h.aS
  obtain ⟨xs, em, al⟩ := h.md
  refine ⟨S', G', h.q, h.ro, h.lw, h.rd, h.r0, h.rn, h.fl, h.rt, fun z => ?_, fun z => ?_, ⟨i, j, m _ _ eS⟩, ⟨xs, m _ _ em, al.imp fun _ _ z => AmsD.same z hF⟩, h.bf.same hF, SqL.keepS h.sc fun o e => hF _ _ e⟩
  · rcases z with z | z
    · exact h.fS (.inl z)
    · rw [← z, eS] at n2; cases n2
  · rcases z with z | z
    · exact h.fM (.inl z)
    · rw [← z, em] at n2; cases n2
end
end K2

namespace K2
open PySem L2
theorem knd_lst {CR C : Addr} {xs : List V} : Knd CR C (.lst xs) := ⟨(fun _ z => nomatch z), (fun _ _ z => nomatch z), fun _ _ z => nomatch z⟩
theorem Room.u100 {n : Nat} {A : Around} (h : Room n A) : A.units + 100 < cLine := by
  have := h.un
  omega
def LsN (H7 H : Hp) (z : V) (c : List Int × List Int) : Prop := ∃ l, z = .ref l ∧ H7 l = none ∧ H l = some (.lst (c.2.map V.int))
/-- a pair of arrays and its copy -/
def HdP (H7 H : Hp) (x t : V) (m : Am) : Prop := ∃ (b a sh cn : Addr) (c2 : V) (zs : List V), x = .ref b ∧ t = .ref a ∧ H7 b = some (.tup [.ref sh, c2]) ∧ H7 a = none ∧ H7 cn = none ∧ H a = some (.tup [.ref sh, .ref cn]) ∧ H cn = some (.dT ((m.cs.map fun c : List Int × List Int => kI c.1).zip zs)) ∧ All (LsN H7 H) zs m.cs
def HdPs (H7 H : Hp) (xa ts : List V) (ms : List Am) (n : Nat) : Prop := ts.length = n ∧ ∀ j, j < n → ∃ x t m, xa[j]? = some x ∧ ts[j]? = some t ∧ ms[j]? = some m ∧ HdP H7 H x t m
theorem LsN.same {H7 H H1 : Hp} {z : V} {c : List Int × List Int} (h : LsN H7 H z c) (m : Same H H1) : LsN H7 H1 z c := let ⟨l, e1, e2, e3⟩ := h; ⟨l, e1, e2, m _ _ e3⟩
theorem HdP.same {H7 H H1 : Hp} {x t : V} {a : Am} (h : HdP H7 H x t a) (m : Same H H1) : HdP H7 H1 x t a := let ⟨b, a, sh, cn, c2, zs, e1, e2, e3, e4, e5, e6, e7, e8⟩ := h; ⟨b, a, sh, cn, c2, zs, e1, e2, e3, e4, e5, m _ _ e6, m _ _ e7, e8.imp fun _ _ z => z.same m⟩
theorem HdPs.same {H7 H H1 : Hp} {xa ts : List V} {ms : List Am} {n : Nat} (h : HdPs H7 H xa ts ms n) (m : Same H H1) : HdPs H7 H1 xa ts ms n := ⟨h.1, fun j hj => let ⟨x, t, a, e1, e2, e3, e4⟩ := h.2 j hj; ⟨x, t, a, e1, e2, e3, e4.same m⟩⟩
theorem HdP.keep {H7 H H1 : Hp} {x t : V} {a : Am} (h : HdP H7 H x t a) (k : ∀ a o, H7 a = none → (∀ z, o ≠ .dK z) → H a = some o → H1 a = some o) : HdP H7 H1 x t a := let ⟨b, a, sh, cn, c2, zs, e1, e2, e3, e4, e5, e6, e7, e8⟩ := h; ⟨b, a, sh, cn, c2, zs, e1, e2, e3, e4, e5, k _ _ e4 (fun _ z => nomatch z) e6, k _ _ e5 (fun _ z => nomatch z) e7, e8.imp fun _ _ z => let ⟨l, z1, z2, z3⟩ := z; ⟨l, z1, z2, k _ _ z2 (fun _ z => nomatch z) z3⟩⟩
theorem HdPs.keep {H7 H H1 : Hp} {xa ts : List V} {ms : List Am} {n : Nat} (h : HdPs H7 H xa ts ms n) (k : ∀ a o, H7 a = none → (∀ z, o ≠ .dK z) → H a = some o → H1 a = some o) : HdPs H7 H1 xa ts ms n := ⟨h.1, fun j hj => let ⟨x, t, a, e1, e2, e3, e4⟩ := h.2 j hj; ⟨x, t, a, e1, e2, e3, e4.keep k⟩⟩
theorem Fz.free {H H1 : Hp} (f : Fz H H1) {a : Addr} (n : H1 a = none) : H a = none := by
  cases e : H a with
  | none => rfl
  | some o =>
    rcases f a o e with z | ⟨⟨od, z⟩, _⟩ <;> (rw [n] at z; cases z)
theorem sum_take1 {α : Type} (f : α → Nat) {l : List α} {i : Nat} {a : α} (e : l[i]? = some a) : ((l.take (i + 1)).map f).sum = ((l.take i).map f).sum + f a := by
  rw [List.take_add_one, e, List.map_append, List.sum_append]
  rfl
theorem dN0 : dN 0 = "data.0" := by decide +kernel
/-- what is handed is the arrays -/
theorem HdPs.ams {F G : Addr → Prop} {C : Addr} {H7 Hq : Hp} {ya ha : Addr} {xa ts : List V} {ms : List Am} (h : HdPs H7 Hq xa ts ms ms.length) (al : All (AmD (hid F H7) C) xa ms) (m : Same H7 Hq) (occ : ∀ a, G a → H7 a ≠ none) (le : ∀ a, G a → F a) (nha : H7 ha = none) (e : Hq ha = some (.dK ((ms.map fun r : Am => (Sum.inr r.n : Key)).zip ts))) : AmsD (hid G Hq) C (.ref ha) ms := by
  have nw : ∀ {a : Addr} {o : HO}, H7 a = none → Hq a = some o → hid G Hq a = some o := fun n e => hid_mk (fun g => occ _ g n) e
  have sm : Same (hid F H7) (hid G Hq) := fun a o e => hid_mk (fun g => (hid_some e).1 (le _ g)) (m _ _ (hid_some e).2)
  refine ⟨ha, ts, rfl, nw nha e, h.1, fun j a ea => ?_⟩
  obtain ⟨x, t, m', e1, e2, e3, b, a', sh, cn, c2, zs, rfl, rfl, f1, f2, f3, f4, f5, f6⟩ := h.2 j (List.getElem?_eq_some_iff.mp ea).1
  rw [ea] at e3
  obtain rfl := Option.some.inj e3
  obtain ⟨x', e4, tb, u, v, rfl, etb, hsh, hcs⟩ := al.2 j a ea
  rw [e1] at e4
  obtain rfl := V.ref.inj (Option.some.inj e4)
  have etb := (hid_some etb).2
  rw [f1] at etb
  injection etb with etb
  injection etb with etb
  injection etb with g1 g2
  subst g1
  exact ⟨_, e2, a', _, _, rfl, nw f2 f4, hsh.same sm, cn, zs, rfl, nw f3 f5, f6.imp fun z c ⟨l, z1, z2, z3⟩ => ⟨l, z1, nw z2 z3⟩⟩
/-- and stays so -/
theorem HdPs.ne {F : Addr → Prop} {C : Addr} {H7 Hq H' : Hp} {xa ts : List V} {ms : List Am} (h : HdPs H7 Hq xa ts ms ms.length) (al : All (AmD (hid F H7) C) xa ms) (nd : (ms.map fun r : Am => (Sum.inr r.n : Key)).Nodup) (ndc : ∀ m ∈ ms, (m.cs.map fun c : List Int × List Int => kI c.1).Nodup) (kq : ∀ a o, H7 a = none → Hq a = some o → H' a = some o) (kF : Same (hid F H7) H'):
    ∀ q ∈ (ms.map fun r : Am => (Sum.inr r.n : Key)).zip ts, ∃ z, valV ((ms.map fun r : Am => (Sum.inr r.n : Key)).zip xa) q.1 = some z ∧ PrEq H' q.2 z := by
  intro q hq
  obtain ⟨j, hj, rfl⟩ := List.getElem_of_mem hq
  have ej := List.getElem?_eq_getElem hj
  obtain ⟨k, t, ekt⟩ : ∃ k t, ((ms.map fun r : Am => (Sum.inr r.n : Key)).zip ts)[j] = (k, t) := ⟨_, _, rfl⟩
  rw [ekt] at ej ⊢
  obtain ⟨ek, et⟩ := List.getElem?_zip_eq_some.mp ej
  rw [List.getElem?_map] at ek
  obtain ⟨m, em, rfl⟩ := Option.map_eq_some_iff.mp ek
  obtain ⟨x, t', m', e1, e2, e3, b, a', sh, cn, c2, zs, rfl, rfl, f1, f2, f3, f4, f5, f6⟩ := h.2 j (List.getElem?_eq_some_iff.mp em).1
  rw [em] at e3
  obtain rfl := Option.some.inj e3
  rw [et] at e2
  obtain rfl := Option.some.inj e2
  obtain ⟨x', e4, tb, u, v, rfl, etb, hsh, cd, zs0, rfl, ecd, alc⟩ := al.2 j m em
  rw [e1] at e4
  obtain rfl := V.ref.inj (Option.some.inj e4)
  have etb7 := (hid_some etb).2
  rw [f1] at etb7
  injection etb7 with etb7
  injection etb7 with etb7
  injection etb7 with g1 g2
  injection g2 with g2
  subst g1 g2
  refine ⟨.ref b, zip_get nd al.1 em e1, a', b, sh, .ref cn, .ref cd, rfl, rfl, kq _ _ f2 f4, kF _ _ etb, cn, cd, _, _, rfl, rfl, kq _ _ f3 f5, kF _ _ ecd, by rw [zip_len f6.1, zip_len alc.1], fun q hq => ?_⟩
  obtain ⟨i, hi, rfl⟩ := List.getElem_of_mem hq
  have ei := List.getElem?_eq_getElem hi
  obtain ⟨k, t, ekt⟩ : ∃ k t, ((m.cs.map fun c : List Int × List Int => kI c.1).zip zs)[i] = (k, t) := ⟨_, _, rfl⟩
  rw [ekt] at ei ⊢
  obtain ⟨ek, et⟩ := List.getElem?_zip_eq_some.mp ei
  rw [List.getElem?_map] at ek
  obtain ⟨c, ec, rfl⟩ := Option.map_eq_some_iff.mp ek
  obtain ⟨t', et', l1, rfl, n1, el1⟩ := f6.2 i c ec
  rw [et] at et'
  obtain rfl := Option.some.inj et'
  obtain ⟨z0, ez0, l0, rfl, el0⟩ := alc.2 i c ec
  exact ⟨.ref l0, zip_get (ndc m (List.mem_of_getElem? em)) alc.1 ec ez0, l1, l0, c.2, rfl, rfl, kq _ _ n1 el1, kF _ _ el0⟩
theorem ne_strs0 {K : PySem.W.Frag} {H : Hp} {a b : Addr} {os : List Str} {Q : VK} (hn : PyData.canLayAll0 (os.map PyData.str) = true) (ha : H a = some (.lst (os.map V.str))) (hb : H b = some (.lst (os.map V.str))) (q : Q (.bl false) H) : rNeD K (.ref a) (.ref b) H Q := by
  refine ⟨.list (os.map PyData.str), .list (os.map PyData.str), .lst (.inl (.inl ha)) (dp_strs os), .lst (.inl (.inl hb)) (dp_strs os), shp_of (depth_strs os) hn, shp_of (depth_strs os) hn, ?_⟩
  rw [eqv_of hn]
  exact q
def nmsL (D : List Int) (rs : List Ve) : List Str := (if D = [] then ([] : List Str) else [("data.0" : Str)]) ++ (if rs = [] then ([] : List Str) else [("root" : Str)])
theorem nmsL_ok (D : List Int) (rs : List Ve) : (nmsL D rs).Nodup ∧ PyProof.Rows.sortedS (nmsL D rs) = true ∧ PyData.canLayAll0 ((nmsL D rs).map PyData.str) = true := by
  unfold nmsL
  by_cases h1 : D = [] <;> by_cases h2 : rs = []
  · rw [if_pos h1, if_pos h2]; decide +kernel
  · rw [if_pos h1, if_neg h2]; decide +kernel
  · rw [if_neg h1, if_pos h2]; decide +kernel
  · rw [if_neg h1, if_neg h2]; decide +kernel
theorem LI.names {CS CD CC CR C : Addr} {K : PySem.W.Frag} {H : Hp} {S scr d s lm lb : Addr} {ns : List Int} {st : DS} {p : DP} {D : List Int} {rs : List Ve} (h : LI CS CD CC CR C K H S scr d s lm lb ns st p D rs) : srt (st.tab.map (·.1)) = nmsL D rs := by
  obtain ⟨h1, h2, _⟩ := nmsL_ok D rs
  refine names_are h.q.n.g h1 h2 fun n => ?_
  have rdD : D ≠ [] → st.rd "data.0" ≠ none := fun d0 e => by
    have r := h.rd
    rw [dN0, e] at r
    exact d0 r.symm
  unfold nmsL
  constructor
  · intro hn
    rcases h.fl n hn with rfl | rfl
    · rw [if_neg (fun z => hn (h.rt.mpr z))]
      exact List.mem_append_right _ List.mem_cons_self
    · rw [if_neg (fun z => hn (h.r0 z)), dN0]
      exact List.mem_append_left _ List.mem_cons_self
  · intro hn
    rcases List.mem_append.mp hn with z | z
    · by_cases d0 : D = []
      · rw [if_pos d0] at z; cases z
      · rw [if_neg d0] at z
        rw [List.mem_singleton.mp z]
        exact rdD d0
    · by_cases r0 : rs = []
      · rw [if_pos r0] at z; cases z
      · rw [if_neg r0] at z
        rw [List.mem_singleton.mp z]
        exact fun e => r0 (h.rt.mp e)
def spLaw (K : PySem.W.Frag) : Sp := fun vs H Q _ => ∃ (scr : Addr) (ns : List Int), vs = [.ref scr] ∧ SqL K H scr (ns.map V.int) ∧ ∀ H', Q (.bl true) H'
section
variable {P : Program} {w : World} {K : PySem.W.Frag} {mg : Str → Option Value} {base : Heap}
theorem sc_law : FnScope ["script", "state", "disk", "store", "model", "before", "size", "turn", "arrays", "handed", "name", "chunks", "chunk", "old"] ["script"] (defScope sLaw) := ⟨rfl, rfl, rfl, by decide +kernel, rfl, by decide +kernel, by decide +kernel⟩
theorem ok_law {f : Addr} {fd : FuncData} {fI0 fD0 CS CD CC CR C : Addr} {fW fA fE fR fD fS fP fZ fL fN : Addr} {fdW fdA fdE fdR fdD fdS fdP fdZ fdL fdN : FuncData} (F : Fun K "law" "law" sLaw f fd) (NE : Neq CS CD CC CR C) (M : Nm mg) (T : KC K CS fI0 SFf) (TD : KC K CD fD0 CDf) (GW : FnOk P w K mg base CX0 1 fW fdW ["state", "script", "size"] (spDraw K)) (kW : PySem.W.keepIn K (.ref fW) = true) (bW : Binds K fdW ["state", "script", "size"] []) (gW : mg "_law_draw" = some (.ref fW)) (GA : FnOk P w K mg base CX0 4 fA fdA ["state", "script", "before"] (spLAr K C)) (kA : PySem.W.keepIn K (.ref fA) = true) (bA : Binds K fdA ["state", "script", "before"] []) (gA : mg "_law_arrays" = some (.ref fA)) (GE : FnOk P w K mg base CX0 6 fE fdE ["store", "model"] (spSm CS CD CC CR C)) (kE : PySem.W.keepIn K (.ref fE) = true) (bE : Binds K fdE ["store", "model"] []) (gE : mg "_law_same" = some (.ref fE)) (GR : FnOk P w K mg base CX0 5 fR fdR ["store", "number"] (spLRf CS CD CC CR C)) (kR : PySem.W.keepIn K (.ref fR) = true) (bR : Binds K fdR ["store", "number"] []) (gR : mg "_law_refused" = some (.ref fR)) (GD : FnOk P w K mg base CX0 1 fD fdD ["self"] (spDInit CD CC)) (bD : Binds K fdD ["self"] []) (gD : mg "Disk" = some (.ref CD)) (MD : Mk K CD fD) (GS : FnOk P w K mg base CX0 9 fS fdS ["self", "disk"] (spSI CS CD CC CR C)) (bS : Binds K fdS ["self", "disk"] []) (gS : mg "Store" = some (.ref CS)) (MS : Mk K CS fS) (GP : FnOk P w K mg base CX0 6 fP fdP ["self", "arrays"] (spPut CS CD CC CR C)) (mP : Meth K CS "put" fP) (bP : Binds K fdP ["self", "arrays"] []) (GZ : FnOk P w K mg base CX0 1 fZ fdZ ["self", "name"] (spSz CD CC)) (mZ : Meth K CD "size" fZ) (bZ : Binds K fdZ ["self", "name"] []) (GL : FnOk P w K mg base CX0 4 fL fdL ["self", "choices"] (spLs CD CC)) (mL : Meth K CD "lose" fL) (bL : Binds K fdL ["self", "choices"] []) (GN : FnOk P w K mg base CX0 1 fN fdN ["self"] (spNames CD CC)) (mN : Meth K CD "names" fN) (bN : Binds K fdN ["self"] []) : FnOk P w K mg base CX0 11 f fd ["script"] (spLaw K) := by
  refine F.ok sc_law (fun vs H Q E h => ?_) (fun cdv A outer s0 H vs Q E hr h => ?_)
  · obtain ⟨scr, ns, rfl, sq, q⟩ := h
    rfl
  · obtain ⟨scr, ns, rfl, sq, q⟩ := h
    have hu := hu_of hr
    have hu100 := Room.u100 hr
    refine ⟨_, (pss_cons (ps_set (i := 1) sc_law.nd rfl (.inl rfl) (pe_lst (pa_cons pe_int (pa_cons pe_int pa_nil))))
      (pss_cons (ps_set (i := 2) sc_law.nd rfl (.inl rfl) (pe_make0 MD GD (hr.mono (j := 2) (by decide)) (by rfl) gD bD .nil pass0))
      (pss_cons (ps_set (i := 3) sc_law.nd rfl (.inl rfl) (pe_make MS GS (hr.mono (j := 10) (by decide)) (by rfl) gS bS .nil pass0 (pa_cons (pv 2) pa_nil)))
      (pss_cons (ps_set (i := 4) sc_law.nd rfl (.inl rfl) pe_dnewK)
      (pss_cons (ps_set (i := 5) sc_law.nd rfl (.inl rfl) pe_dnewK)
      (pss_cons (ps_set (i := 6) sc_law.nd rfl (.inl rfl) pe_int)
      (Evl.pss_cut (ps_for PassesOwn.never rfl (pi_range1 (by rfl) M.range (pa_cons (pe_call GW (hr.mono (j := 1) (by decide)) (by rfl) gW kW bW .nil pass0 (pa_cons (pv 1) (pa_cons (pv 0) (pa_cons pe_int pa_nil)))) pa_nil)) (pg_name (i := 7) sc_law.nd rfl (.inl rfl)) (pss_cons (ps_set (i := 8) sc_law.nd rfl (.inl rfl) (pe_call GA (hr.mono (j := 4) (by decide)) (by rfl) gA kA bA .nil pass0 (pa_cons (pv 1) (pa_cons (pv 0) (pa_cons (pv 5) pa_nil)))))
      (pss_cons (ps_set (i := 9) sc_law.nd rfl (.inl rfl) pe_dnewK)
      (Evl.pss_cut (ps_lock (ps_for PassesOwn.never rfl (pi_keys (pv 8)) (pg_name (i := 10) sc_law.nd rfl (.inl rfl)) (pss_cons (ps_set (i := 11) sc_law.nd rfl (.inl rfl) pe_dnewT)
      (Evl.pss_cut (ps_lock (ps_for PassesOwn.never rfl (pi_keys (pe_ix ix_tup (pe_dget hu (pv 8) (pv 10) (fun _ _ => rfl)) pe_int (fun _ _ => rfl))) (pg_name (i := 12) sc_law.nd rfl (.inl rfl)) (pss_cons (ps_dput hu (pv 11) (pv 12) (pe_callTy call_list_of (by rfl) M.list (by decide +kernel) (pa_cons (pe_dget hu (pe_ix ix_tup (pe_dget hu (pv 8) (pv 10) (fun _ _ => rfl)) pe_int (fun _ _ => rfl)) (pv 12) (fun _ _ => rfl)) pa_nil)) rfl)
      (pss_cons (ps_set (i := 13) sc_law.nd rfl (.inl rfl) pe_dnewT)
      (Evl.pss_cut (ps_if (pt_cmp (pc_din hu (pv 10) (pv 5))) (pss_one (ps_set (i := 13) sc_law.nd rfl (.inl rfl) (pe_ix ix_tup (pe_dget hu (pv 5) (pv 10) (fun _ _ => rfl)) pe_int (fun _ _ => rfl)))) pss_nil)
      (pss_one (ps_if (PW.pt (pw_or (pt_cmp (pc_dnotin hu (pv 12) (pv 13))) (pw_or1 (pt_cmpR (op_neD hr.units) (pe_dget hu (pv 13) (pv 12) (fun _ _ => rfl)) (pe_dget hu (pv 11) (pv 12) (fun _ _ => rfl)) (nomark _))))) (pss_one (ps_set (i := 6) sc_law.nd rfl (.inl rfl) (pe_op op_add (pe_op op_add (pv 6) pe_int) (pe_callB call_len_seq (by rfl) M.len PySem.boot_len (pa_cons (pe_dget hu (pv 11) (pv 12) (fun _ _ => rfl)) pa_nil))))) pss_nil)))))))
      (pss_one (ps_dput hu (pv 9) (pv 10) (pe_tup (pa_cons (pe_ix ix_tup (pe_dget hu (pv 8) (pv 10) (fun _ _ => rfl)) pe_int (fun _ _ => rfl)) (pa_cons (pv 11) pa_nil))) rfl))))))
      (pss_cons (ps_if (PW.pt (pw_or (pt_cmpR op_ne (pe_meth (pv 3) T.cl mP GP (hr.mono (j := 6) (by decide)) bP .nil pass0 (pa_cons (pv 9) pa_nil)) (pe_op op_add (pv 7) pe_int) (nomark _)) (pw_or1 (pt_cmpR (op_neMod hu100) (pv 9) (pv 8) (nomark _))))) (pss_one (ps_ret pe_bl)) pss_nil)
      (pss_cons (ps_dput hu (pv 4) (pe_op op_add (pv 7) pe_int) (pv 8) rfl)
      (pss_cons (ps_set (i := 5) sc_law.nd rfl (.inl rfl) (pv 8))
      (pss_cons (ps_if (PW.pt (pw_and (pt_cmpR op_ne (pe_meth (pv 2) TD.cl mZ GZ (hr.mono (j := 1) (by decide)) bZ .nil pass0 (pa_cons pe_str pa_nil)) (pe_ix ix_list (pe_lst (pa_cons (pv 6) (pa_cons pe_non pa_nil))) (pe_callTy call_int1 (by rfl) M.int (by decide +kernel) (pa_cons (pe_cmpR op_eq (pv 6) pe_int (nomark _)) pa_nil)) (fun _ _ => rfl)) (nomark _)) (pw_and1 (pt_cmpR op_gt (pv 6) pe_int (nomark _))))) (pss_one (ps_ret pe_bl)) pss_nil)
      (pss_one (ps_if (pt_cmpR op_eq (pe_call GW (hr.mono (j := 1) (by decide)) (by rfl) gW kW bW .nil pass0 (pa_cons (pv 1) (pa_cons (pv 0) (pa_cons pe_int pa_nil)))) pe_int (nomark _)) (pss_cons (ps_set (i := 3) sc_law.nd rfl (.inl rfl) (pe_make MS GS (hr.mono (j := 10) (by decide)) (by rfl) gS bS .nil pass0 (pa_cons (pe_meth (pv 2) TD.cl mL GL (hr.mono (j := 4) (by decide)) bL .nil pass0 (pa_cons (pe_lst pa_nil) pa_nil)) pa_nil)))
      (pss_cons (ps_if (pt_not (pt_val (pe_call GE (hr.mono (j := 6) (by decide)) (by rfl) gE kE bE .nil pass0 (pa_cons (pv 3) (pa_cons (pv 4) pa_nil))))) (pss_one (ps_ret pe_bl)) pss_nil)
      (pss_one (ps_set (i := 3) sc_law.nd rfl (.inl rfl) (pe_make MS GS (hr.mono (j := 10) (by decide)) (by rfl) gS bS .nil pass0 (pa_cons (pv 2) pa_nil)))))) pss_nil))))))))))
      (pss_cons (ps_if (pt_cmpR (op_neD hr.units) (pe_meth0 (pv 2) TD.cl mN GN (hr.mono (j := 1) (by decide)) bN .nil pass0) (pe_op op_cat (pe_op op_rep (pe_lst (pa_cons pe_str pa_nil)) (pe_callTy call_int1 (by rfl) M.int (by decide +kernel) (pa_cons (pe_cmpR op_notN (pe_meth (pv 2) TD.cl mZ GZ (hr.mono (j := 1) (by decide)) bZ .nil pass0 (pa_cons pe_str pa_nil)) pe_non (nomark _)) pa_nil))) (pe_op op_rep (pe_lst (pa_cons pe_str pa_nil)) (pe_callTy call_int1 (by rfl) M.int (by decide +kernel) (pa_cons (pe_cmpR op_gt (pe_callB cr_lenD (by rfl) M.len PySem.boot_len (pa_cons (pv 4) pa_nil)) pe_int (nomark _)) pa_nil)))) (nomark _)) (pss_one (ps_ret pe_bl)) pss_nil)
      (pss_one (ps_ret (pe_and (pe_call GE (hr.mono (j := 6) (by decide)) (by rfl) gE kE bE .nil pass0 (pa_cons (pv 3) (pa_cons (pv 4) pa_nil))) (pe_and (pe_call GR (hr.mono (j := 5) (by decide)) (by rfl) gR kR bR .nil pass0 (pa_cons (pv 3) (pa_cons pe_int pa_nil))) (pe_one (pe_call GR (hr.mono (j := 5) (by decide)) (by rfl) gR kR bR .nil pass0 (pa_cons (pv 3) (pa_cons (pe_op op_add (pe_callB cr_lenD (by rfl) M.len PySem.boot_len (pa_cons (pv 4) pa_nil)) pe_int) pa_nil)))))))))))))))), ?_⟩
    refine ⟨(by show 2 ≤ sizeLine; decide), fun S nS => ?_⟩
    have m1 := same_new (o := .lst [.int 0, .int 0]) nS
    obtain ⟨H1, eH1⟩ : ∃ H1, H1 = upd H S (.lst [.int 0, .int 0]) := ⟨_, rfl⟩
    have eS1 : H1 S = some (.lst [.int 0, .int 0]) := by rw [eH1, upd_same]
    rw [← eH1] at m1 ⊢
    intro d dx nd ndx nex
    refine ⟨d, dx, rfl, upd_same, fun H2 p x2 np1 np2 np3 hk => ⟨rfl, ?_⟩⟩
    have m2 : Same H1 H2 := mk_same nd ndx x2
    have cr : ∀ {a : Addr}, H1 a = none → S ≠ a := fun e z => by rw [← z, eS1] at e; cases e
    have eSc : (upd (upd H1 dx (.own d)) d (.ins CD dx [])) S = some (.lst [.int 0, .int 0]) := by
      rw [upd_ne (cr nd), upd_ne (cr ndx)]
      exact eS1
    have nSc : ∀ {a : Addr}, (upd (upd H1 dx (.own d)) d (.ins CD dx [])) a = none → S ≠ a := fun e z => by rw [← z, eSc] at e; cases e
    have eS2 := m2 _ _ eS1
    refine ⟨_, rfl, ?_⟩
    intro s dxs ns0 ndxs nexs
    have mc : Same H2 (upd (upd H2 dxs (.own s)) s (.ins CS dxs [])) := mk_same ns0 ndxs (fun c o e _ => e)
    refine ⟨s, dxs, d, ds0, p, 1, 0, [], (fun a => a = S), rfl, ?_⟩
    refine ⟨upd_same, hk.same mc, hk.nfree ns0, fun a z => ⟨fun y => (by rw [← y, show a = S from z, eS2] at ns0; cases ns0), .lst [.int 0, .int 0], mc _ _ (by rw [show a = S from z]; exact eS2), knd_lst⟩, quiet0.n, .inl ⟨rfl, rfl, rfl, rfl⟩, ⟨by decide, by decide⟩, LwM.nil.wfr, fun n hn => absurd rfl hn, fun H3 x3 st3 sg3 => ⟨rfl, ?_⟩⟩
    have m3 : Same H2 H3 := mk_same ns0 ndxs x3
    refine fun lm nlm => ?_
    have m4 := same_new (o := .dK []) nlm
    obtain ⟨H4, eH4⟩ : ∃ H4, H4 = upd H3 lm (.dK []) := ⟨_, rfl⟩
    have elm4 : H4 lm = some (.dK []) := by rw [eH4, upd_same]
    rw [← eH4] at m4 ⊢
    refine fun lb nlb => ?_
    have m5 := same_new (o := .dK []) nlb
    obtain ⟨H5, eH5⟩ : ∃ H5, H5 = upd H4 lb (.dK []) := ⟨_, rfl⟩
    have elb5 : H5 lb = some (.dK []) := by rw [eH5, upd_same]
    rw [← eH5] at m5 ⊢
    have m35 := m4.trans m5
    have eS3 := m3 _ _ eS2
    have fS0 : ¬ ftS s d p ds0.cs.length S := fun f => by
      rcases f with (f | f | f | f | ⟨i, hi, _⟩) | f
      · exact cr nd f
      · exact nSc np1 f
      · exact nSc np2 f
      · exact nSc np3 f
      · exact absurd hi (Nat.not_lt_zero _)
      · rw [← f, eS2] at ns0; cases ns0
    have hid35 : Same (hid (fun a => ftS s d p ds0.cs.length a ∨ a = S) H3) (hid (fLw s d p ds0.cs.length S lm) H5) := fun a o e => by
      obtain ⟨n, e⟩ := hid_some e
      refine hid_mk (fun z => ?_) (m35 _ _ e)
      rcases z with z | z | z
      · exact n (.inl z)
      · exact n (.inr z)
      · rw [z, nlm] at e; cases e
    have I5 : LI CS CD CC CR C K H5 S scr d s lm lb ns ds0 p [] [] := by
      obtain ⟨dx3, ra3, y3, e3, r3, v3⟩ := sg3
      have fM : ¬ ftS s d p ds0.cs.length lm := fun f => st3.occ lm f nlm
      have nl2 : lb ≠ lm := fun z => by rw [z, elm4] at nlb; cases nlb
      have fscr : ∀ o, H scr = some o → hid (fLw s d p ds0.cs.length S lm) H5 scr = some o := fun o e => by
        have e1 := m1 _ _ e
        have e2 := m2 _ _ e1
        have e3 := m3 _ _ e2
        have ec : (upd (upd H1 dx (.own d)) d (.ins CD dx [])) scr = some o := by
          rw [upd_ne (ne_of_none e1 nd), upd_ne (ne_of_none e1 ndx)]
          exact e1
        refine hid_mk (fun z => ?_) (m35 _ _ e3)
        rcases z with (z | z) | z | z
        · rcases z with z | z | z | z | ⟨i, hi, _⟩
          · exact ne_of_none e1 nd z
          · exact ne_of_none ec np1 z
          · exact ne_of_none ec np2 z
          · exact ne_of_none ec np3 z
          · exact absurd hi (Nat.not_lt_zero _)
        · exact ne_of_none e2 ns0 z
        · exact ne_of_none e nS z
        · exact ne_of_none e3 nlm z
      exact ⟨st3.same m35, ⟨dx3, ra3, y3, m35 _ _ e3, r3.same hid35, v3.same hid35⟩, quiet0, .inl ⟨rfl, rfl, rfl, rfl⟩, LwM.nil, rfl, fun _ => rfl, rfl, fun n hn => absurd rfl hn, ⟨fun _ => rfl, fun _ => rfl⟩, fS0, fM, ⟨0, 0, m35 _ _ eS3⟩, ⟨[], m5 _ _ elm4, All.nil⟩, ⟨lb, [], rfl, hid_mk (fun z => by
        rcases z with z | z | z
        · exact (st3.same m4).occ lb z nlb
        · rw [z, m4 _ _ eS3] at nlb; cases nlb
        · exact nl2 z) elb5, All.nil⟩, SqL.keepS sq fscr⟩
    refine ⟨fun σ H6 => ∃ (s lb : Addr) (y7 y8 y9 y10 y11 y12 y13 : Option V) (st : DS) (p : DP) (D : List Int) (rs : List Ve), σ = [some (.ref scr), some (.ref S), some (.ref d), some (.ref s), some (.ref lm), some (.ref lb), some (.int (D.length : Int)), y7, y8, y9, y10, y11, y12, y13] ∧ LI CS CD CC CR C K H6 S scr d s lm lb ns st p D rs, ?_, ?_⟩
    · refine ⟨_, rfl, _, rfl, S, scr, 9, ns, rfl, by decide, by decide, I5.aS, I5.sq0 _ (fun _ _ e _ => e), fun H6 v x6 t6 v0 v9 => ?_⟩
      have I6 := I5.ex x6 t6
      refine ⟨v, rfl, by omega, by omega, for_range (lo := 0) (n := v.toNat) (fun i σ H7 => ∃ (s lb : Addr) (y7 y8 y9 y10 y11 y12 y13 : Option V) (st : DS) (p : DP) (D : List Int) (rs : List Ve), σ = [some (.ref scr), some (.ref S), some (.ref d), some (.ref s), some (.ref lm), some (.ref lb), some (.int (D.length : Int)), y7, y8, y9, y10, y11, y12, y13] ∧ LI CS CD CC CR C K H7 S scr d s lm lb ns st p D rs ∧ rs.length = i) ?_ ?_ ?_⟩
      · exact ⟨s, lb, _, _, _, _, _, _, _, ds0, p, [], [], rfl, I6, rfl⟩
      · rintro i σ H6 hi ⟨s, lb, y7, y8, y9, y10, y11, y12, y13, st, p, D, rs, rfl, I6, li⟩
        have li8 : rs.length < 8 := by omega
        refine ⟨_, rfl, _, rfl, _, rfl, fLw s d p st.cs.length S lm, S, scr, .ref lb, ns, _, rfl, .inr (.inl rfl), I6.occ, I6.aS, I6.sc, I6.bf, I6.db, fun a f o e => ?_, fun H7 z ms x7 t7 hz dz => ?_⟩
        · obtain ⟨k1, k2, k3⟩ := I6.kinds NE a f o e
          exact ⟨k1, k3⟩
        have I7 := I6.ex x7 t7
        clear I6 x7 t7
        obtain ⟨ya, xa, rfl, eya, ala⟩ := id hz
        have eya7 := (hid_some eya).2
        refine fun ha nha => ?_
        have m8 := same_new (o := .dK []) nha
        obtain ⟨H8, eH8⟩ : ∃ H8, H8 = upd H7 ha (.dK []) := ⟨_, rfl⟩
        have eha8 : H8 ha = some (.dK []) := by rw [eH8, upd_same]
        rw [← eH8] at m8 ⊢
        refine ⟨fun σ Hq => ∃ (y10 y11 y12 y13 : Option V) (ts : List V), σ = [some (.ref scr), some (.ref S), some (.ref d), some (.ref s), some (.ref lm), some (.ref lb), some (.int ((D.length + cost D rs ms : Nat) : Int)), some (.int (0 + (i : Int))), some (.ref ya), some (.ref ha), y10, y11, y12, y13] ∧ Same H7 Hq ∧ Hq ha = some (.dK ((ms.map fun r : Am => (Sum.inr r.n : Key)).zip ts)) ∧ HdPs H7 Hq xa ts ms ms.length, ?_, ?_⟩
        · have nya : ha ≠ ya := fun z => by rw [z, eya7] at nha; cases nha
          refine ⟨ya, _, m8 _ _ eya7, trivial, fun od1 => ?_⟩
          obtain ⟨H9, eH9⟩ : ∃ H9, H9 = upd H8 ya (.frz od1 (.dK ((ms.map fun r : Am => (Sum.inr r.n : Key)).zip xa))) := ⟨_, rfl⟩
          have eya9 : H9 ya = some (.frz od1 (.dK ((ms.map fun r : Am => (Sum.inr r.n : Key)).zip xa))) := by rw [eH9, upd_same]
          have eha9 : H9 ha = some (.dK []) := by rw [eH9, upd_ne nya]; exact eha8
          have z9 : Fz H7 H9 := by rw [eH9]; exact (Fz.refl.same m8).lock (m8 _ _ eya7) (.inl ⟨_, rfl⟩)
          have l9 : ∀ a o, H7 a = some o → a ≠ ya → H9 a = some o := fun a o e n => by rw [eH9, upd_ne n]; exact m8 _ _ e
          rw [← eH9]
          have lza := zip_len (key := fun r : Am => (Sum.inr r.n : Key)) ala.1
          have ndm := dz.wf.nd
          refine ⟨_, rfl, ya, od1, rfl, .inl ⟨_, eya9, for_it walk_keys (fun i' σ Hx => ∃ (y10 y11 y12 y13 : Option V) (ts : List V), σ = [some (.ref scr), some (.ref S), some (.ref d), some (.ref s), some (.ref lm), some (.ref lb), some (.int ((D.length + ((ms.take i').map (costA D rs)).sum : Nat) : Int)), some (.int (0 + (i : Int))), some (.ref ya), some (.ref ha), y10, y11, y12, y13] ∧ (∀ a o, H7 a = some o → a ≠ ya → Hx a = some o) ∧ Fz H7 Hx ∧ Hx ya = some (.frz od1 (.dK ((ms.map fun r : Am => (Sum.inr r.n : Key)).zip xa))) ∧ Hx ha = some (.dK (((ms.take i').map fun r : Am => (Sum.inr r.n : Key)).zip ts)) ∧ HdPs H7 Hx xa ts ms i') ?_ ?_ ?_ ?_⟩⟩
          · exact ⟨_, _, _, _, [], rfl, l9, z9, eya9, eha9, rfl, fun j hj => absurd hj (Nat.not_lt_zero _)⟩
          · rintro i' σ Hx hi' ⟨y10, y11, y12, y13, ts, rfl, kx, zx, eyx, ehx, hd⟩
            exact eyx
          · rintro i' x σ Hx' Hx hi' ⟨y10, y11, y12, y13, ts, rfl, kx, zx, eyx, ehx, hd⟩ ⟨rfl, key, v0, ekv, rfl⟩
            obtain ⟨ek1, ev⟩ := List.getElem?_zip_eq_some.mp ekv
            rw [List.getElem?_map] at ek1
            obtain ⟨m, em, rfl⟩ := Option.map_eq_some_iff.mp ek1
            obtain ⟨v1, ev1, tb, u, c2, rfl, etb, hsh, hcs⟩ := ala.2 i' m em
            rw [ev] at ev1
            obtain rfl := Option.some.inj ev1
            have mm : m ∈ ms := List.mem_of_getElem? em
            have dm := dz.m m mm
            obtain ⟨sh, dxs, su, sv, rfl, _⟩ := id hsh
            obtain ⟨cd, zs0, rfl, ecd, alc⟩ := id hcs
            have etb7 := (hid_some etb).2
            have ecd7 := (hid_some ecd).2
            have gy : ∀ {H'' : Hp}, H'' ya = some (.frz od1 (.dK ((ms.map fun r : Am => (Sum.inr r.n : Key)).zip xa))) → DGet H'' ya (.str m.n) (some (.ref tb)) := fun e => .inl ⟨_, Sum.inr m.n, .inr ⟨od1, e⟩, rfl, (zip_get ndm ala.1 em ev).symm⟩
            have ncy : cd ≠ ya := fun z => by rw [z, eya7] at ecd7; cases ecd7
            refine fun cn ncn => ?_
            have ncn7 := zx.free ncn
            have ncd : cn ≠ cd := fun z => by rw [z, ecd7] at ncn7; cases ncn7
            have my := same_new (o := .dT []) ncn
            obtain ⟨Hy, eHy⟩ : ∃ Hy, Hy = upd Hx cn (.dT []) := ⟨_, rfl⟩
            have ecny : Hy cn = some (.dT []) := by rw [eHy, upd_same]
            rw [← eHy] at my ⊢
            refine ⟨fun σ Hq => ∃ (y12 y13 : Option V) (zs : List V), σ = [some (.ref scr), some (.ref S), some (.ref d), some (.ref s), some (.ref lm), some (.ref lb), some (.int ((D.length + ((ms.take (i' + 1)).map (costA D rs)).sum : Nat) : Int)), some (.int (0 + (i : Int))), some (.ref ya), some (.ref ha), some (.str m.n), some (.ref cn), y12, y13] ∧ Same Hx Hq ∧ Hq cn = some (.dT ((m.cs.map fun c : List Int × List Int => kI c.1).zip zs)) ∧ All (LsN H7 Hq) zs m.cs, ?_, ?_⟩
            · refine ⟨cd, _, my _ _ (kx _ _ ecd7 ncy), trivial, fun od2 => ?_⟩
              obtain ⟨Hz0, eHz0⟩ : ∃ Hz0, Hz0 = upd Hy cd (.frz od2 (.dT ((m.cs.map fun c : List Int × List Int => kI c.1).zip zs0))) := ⟨_, rfl⟩
              have ecd0 : Hz0 cd = some (.frz od2 (.dT ((m.cs.map fun c : List Int × List Int => kI c.1).zip zs0))) := by rw [eHz0, upd_same]
              have ecn0 : Hz0 cn = some (.dT []) := by rw [eHz0, upd_ne ncd]; exact ecny
              have fz0 : Fz H7 Hz0 := by rw [eHz0]; exact (zx.same my).lock (my _ _ (kx _ _ ecd7 ncy)) (.inr ⟨_, rfl⟩)
              have k0 : ∀ a o, Hx a = some o → a ≠ cd → Hz0 a = some o := fun a o e n => by rw [eHz0, upd_ne n]; exact my _ _ e
              rw [← eHz0]
              have lzc := zip_len (key := fun c : List Int × List Int => kI c.1) alc.1
              have ndc := asc_ndm dm.wf.1
              have tz : ∀ {H'' : Hp}, Fz H7 H'' → H'' tb = some (.tup [.ref sh, .ref cd]) := fun f => f.tup etb7
              refine ⟨_, rfl, _, rfl, ya, _, rfl, gy (k0 _ _ eyx (Ne.symm ncy)), tb, _, 1, _, rfl, rfl, SqT.of (tz fz0), rfl, cd, od2, rfl, .inr ⟨_, ecd0, for_it walk_keysT (fun j σ Hz => ∃ (y12 y13 : Option V) (zs : List V), σ = [some (.ref scr), some (.ref S), some (.ref d), some (.ref s), some (.ref lm), some (.ref lb), some (.int ((D.length + ((ms.take i').map (costA D rs)).sum + ((m.cs.take j).map (costC D rs m.n)).sum : Nat) : Int)), some (.int (0 + (i : Int))), some (.ref ya), some (.ref ha), some (.str m.n), some (.ref cn), y12, y13] ∧ (∀ a o, Hx a = some o → a ≠ cd → Hz a = some o) ∧ Fz H7 Hz ∧ Hz cd = some (.frz od2 (.dT ((m.cs.map fun c : List Int × List Int => kI c.1).zip zs0))) ∧ Hz cn = some (.dT (((m.cs.take j).map fun c : List Int × List Int => kI c.1).zip zs)) ∧ All (LsN H7 Hz) zs (m.cs.take j)) ?_ ?_ ?_ ?_⟩⟩
              · exact ⟨_, _, [], rfl, k0, fz0, ecd0, ecn0, All.nil⟩
              · rintro j σ Hz hj ⟨y12, y13, zs, rfl, kz, fz, ecz, enz, alz⟩
                exact ecz
              · rintro j x σ Hz' Hz hj ⟨y12, y13, zs, rfl, kz, fz, ecz, enz, alz⟩ ⟨rfl, key, v0, q, ekv, rfl, hq⟩
                obtain ⟨ec1, ev0⟩ := List.getElem?_zip_eq_some.mp ekv
                rw [List.getElem?_map] at ec1
                obtain ⟨c, ec, rfl⟩ := Option.map_eq_some_iff.mp ec1
                obtain ⟨v1, ev2, l0, rfl, el0⟩ := alc.2 j c ec
                rw [ev0] at ev2
                obtain rfl := Option.some.inj ev2
                have el07 := (hid_some el0).2
                rw [kI_v] at hq
                have hqk : ∀ {H'' : Hp}, H'' q = some (.tup (c.1.map V.int)) → H'' q = some (.tup ((kI c.1).map kV)) := fun e => by rw [kI_v]; exact e
                have gcd : DGet Hz cd (.ref q) (some (.ref l0)) := .inr ⟨_, kI c.1, q, .inr ⟨od2, ecz⟩, rfl, hqk hq, (zip_get ndc alc.1 ec ev0).symm⟩
                refine ⟨_, rfl, _, rfl, ya, _, rfl, gy (kz _ _ eyx (Ne.symm ncy)), tb, _, 1, _, rfl, rfl, SqT.of (tz fz), rfl, _, rfl, cd, _, rfl, gcd, l0, c.2.map V.int, rfl, .inl (.inl (.inl (fz.lst el07))), fun l1 nl1 => ?_⟩
                have ma := same_new (o := .lst (c.2.map V.int)) nl1
                obtain ⟨Ha, eHa⟩ : ∃ Ha, Ha = upd Hz l1 (.lst (c.2.map V.int)) := ⟨_, rfl⟩
                have el1 : Ha l1 = some (.lst (c.2.map V.int)) := by rw [eHa, upd_same]
                rw [← eHa] at ma ⊢
                have ltk : zs.length = (m.cs.take j).length := alz.1
                have l6 := dm.l
                have nkc : kI c.1 ∉ (m.cs.take j).map fun c : List Int × List Int => kI c.1 := by
                  have h1 := ndc.sublist ((List.take_sublist (j + 1) m.cs).map fun c : List Int × List Int => kI c.1)
                  rw [List.take_add_one, ec, List.map_append, List.nodup_append] at h1
                  exact fun z => h1.2.2 _ z _ List.mem_cons_self rfl
                refine ⟨_, rfl, _, rfl, cn, _, rfl, DPut.t (k := kI c.1) (ma _ _ enz) (hqk (ma _ _ hq)) (by rw [zip_len ltk]; exact small1000 (by rw [List.length_take]; omega)), ?_⟩
                rw [zip_push (key := fun c : List Int × List Int => kI c.1) (a := c) ltk nkc]
                have e1 : m.cs.take j ++ [c] = m.cs.take (j + 1) := by rw [List.take_add_one, ec]; rfl
                rw [e1]
                obtain ⟨Hb, eHb⟩ : ∃ Hb, Hb = upd Ha cn (.dT (((m.cs.take (j + 1)).map fun c : List Int × List Int => kI c.1).zip (zs ++ [.ref l1]))) := ⟨_, rfl⟩
                have ecnb : Hb cn = some (.dT (((m.cs.take (j + 1)).map fun c : List Int × List Int => kI c.1).zip (zs ++ [.ref l1]))) := by rw [eHb, upd_same]
                have kb : ∀ a o, Ha a = some o → a ≠ cn → Hb a = some o := fun a o e n => by rw [eHb, upd_ne n]; exact e
                rw [← eHb]
                have nx : ∀ {a o}, Hx a = some o → a ≠ cn := fun e => ne_of_none e ncn
                have nc7 : ∀ {a o}, H7 a = some o → a ≠ cn := fun e => ne_of_none e ncn7
                have ncl : ∀ {a : Addr} {xs : List V}, Ha a = some (.lst xs) → a ≠ cn := fun e z => by rw [z, ma _ _ enz] at e; cases e
                have nct : ∀ {a : Addr} {xs : List V}, Ha a = some (.tup xs) → a ≠ cn := fun e z => by rw [z, ma _ _ enz] at e; cases e
                have fzb : Fz H7 Hb := fun a o e => by
                  rcases (fz.same ma) a o e with z | ⟨⟨od, z⟩, k⟩
                  · exact .inl (kb _ _ z (nc7 e))
                  · exact .inr ⟨⟨od, kb _ _ z (nc7 e)⟩, k⟩
                have elb := kb _ _ el1 (ncl el1)
                have hqb := kb _ _ (ma _ _ hq) (nct (ma _ _ hq))
                have ecb := kb _ _ (ma _ _ ecz) (Ne.symm ncd)
                have kxb : ∀ a o, Hx a = some o → a ≠ cd → Hb a = some o := fun a o e n => kb _ _ (ma _ _ (kz _ _ e n)) (nx e)
                have alb : All (LsN H7 Hb) (zs ++ [.ref l1]) (m.cs.take (j + 1)) := by
                  rw [← e1]
                  exact All.push (alz.imp fun z c ⟨l, z1, z2, z3⟩ => ⟨l, z1, z2, kb _ _ (ma _ _ z3) (ncl (ma _ _ z3))⟩) ⟨l1, rfl, fz.free nl1, elb⟩
                have sumj := sum_take1 (costC D rs m.n) ec
                refine fun o1 no1 => ?_
                have mo := same_new (o := .dT []) no1
                obtain ⟨Hd, eHd⟩ : ∃ Hd, Hd = upd Hb o1 (.dT []) := ⟨_, rfl⟩
                have eod : Hd o1 = some (.dT []) := by rw [eHd, upd_same]
                rw [← eHd] at mo ⊢
                have gcn : ∀ {H'' : Hp}, Same Hd H'' → DGet H'' cn (.ref q) (some (.ref l1)) := fun mm' => by
                  refine .inr ⟨_, kI c.1, q, .inl (mm' _ _ (mo _ _ ecnb)), rfl, hqk (mm' _ _ (mo _ _ hqb)), ?_⟩
                  refine (zip_get (key := fun c : List Int × List Int => kI c.1) (i := j) (ndc.sublist ((List.take_sublist (j + 1) m.cs).map _)) alb.1 (a := c) (by rw [List.getElem?_take_of_lt (Nat.lt_succ_self j)]; exact ec) ?_).symm
                  have lj : zs.length = j := by
                    have := (List.getElem?_eq_some_iff.mp ec).1
                    rw [ltk, List.length_take]
                    omega
                  rw [List.getElem?_append_right (by omega), lj, Nat.sub_self]
                  rfl
                refine ⟨fun σ He => ∃ oa, σ = [some (.ref scr), some (.ref S), some (.ref d), some (.ref s), some (.ref lm), some (.ref lb), some (.int ((D.length + ((ms.take i').map (costA D rs)).sum + ((m.cs.take j).map (costC D rs m.n)).sum : Nat) : Int)), some (.int (0 + (i : Int))), some (.ref ya), some (.ref ha), some (.str m.n), some (.ref cn), some (.ref q), some (.ref oa)] ∧ He = Hd ∧ ∃ r, DGet Hd oa (.ref q) r ∧ ((r = none ∧ oldC ((lastAs rs).map (vw D)) m.n c.1 = none) ∨ ∃ (l : Addr) (os : List Int), r = some (.ref l) ∧ Hd l = some (.lst (os.map V.int)) ∧ oldC ((lastAs rs).map (vw D)) m.n c.1 = some os), ?_, ?_⟩
                · rcases old_get (fzb.same mo) (I7.bf.same (hid_same _ _)) I7.db m.n with ⟨g, no⟩ | ⟨tb', od', u', g, et', old⟩
                  · refine ⟨_, rfl, _, rfl, lb, _, rfl, g, _, rfl, iteF ?_⟩
                    exact ⟨o1, rfl, rfl, none, .inr ⟨_, kI c.1, q, .inl eod, rfl, hqk (mo _ _ hqb), rfl⟩, .inl ⟨rfl, no c.1⟩⟩
                  · refine ⟨_, rfl, _, rfl, lb, _, rfl, g, _, rfl, iteT ?_⟩
                    exact ⟨_, rfl, _, rfl, lb, _, rfl, g, tb', _, 1, _, rfl, rfl, SqT.of et', rfl, od', rfl, rfl, old c.1 q (mo _ _ hqb)⟩
                · rintro σ He ⟨oa, rfl, rfl, r, g, hr⟩
                  have fin : ∀ (H' : Hp) (w : Int), Same He H' → w = ((D.length + ((ms.take i').map (costA D rs)).sum + ((m.cs.take j).map (costC D rs m.n)).sum + costC D rs m.n c : Nat) : Int) → ∃ (y12 y13 : Option V) (zs : List V), ([some (.ref scr), some (.ref S), some (.ref d), some (.ref s), some (.ref lm), some (.ref lb), some (.int w), some (.int (0 + (i : Int))), some (.ref ya), some (.ref ha), some (.str m.n), some (.ref cn), some (.ref q), some (.ref oa)] : St) = [some (.ref scr), some (.ref S), some (.ref d), some (.ref s), some (.ref lm), some (.ref lb), some (.int ((D.length + ((ms.take i').map (costA D rs)).sum + ((m.cs.take (j + 1)).map (costC D rs m.n)).sum : Nat) : Int)), some (.int (0 + (i : Int))), some (.ref ya), some (.ref ha), some (.str m.n), some (.ref cn), y12, y13] ∧ (∀ a o, Hx a = some o → a ≠ cd → H' a = some o) ∧ Fz H7 H' ∧ H' cd = some (.frz od2 (.dT ((m.cs.map fun c : List Int × List Int => kI c.1).zip zs0))) ∧ H' cn = some (.dT (((m.cs.take (j + 1)).map fun c : List Int × List Int => kI c.1).zip zs)) ∧ All (LsN H7 H') zs (m.cs.take (j + 1)) := fun H' w mh ez => by
                    have mbh := mo.trans mh
                    refine ⟨some (.ref q), some (.ref oa), zs ++ [.ref l1], ?_, fun a o e n => mbh _ _ (kxb _ _ e n), fzb.same mbh, mbh _ _ ecb, mbh _ _ ecnb, alb.imp fun z c h => h.same mbh⟩
                    rw [sumj, ez, Nat.add_assoc _ _ (costC D rs m.n c)]
                  have cis := costC_is D rs m.n c
                  rcases hr with ⟨rfl, no⟩ | ⟨l, os, rfl, el, yes⟩
                  · rw [no, if_neg (fun z => nomatch z)] at cis
                    refine ⟨_, rfl, _, rfl, oa, _, rfl, g, _, rfl, iteT ?_⟩
                    refine iteT ?_
                    refine ⟨_, rfl, _, _, rfl, rfl, _, rfl, _, rfl, cn, _, rfl, gcn (Same.refl _), l1, _, rfl, .inl (.inl (.inl (mo _ _ elb))), _, _, rfl, rfl, ?_⟩
                    exact fin _ _ (Same.refl _) (by rw [cis, List.length_map]; omega)
                  · rw [yes] at cis
                    refine ⟨_, rfl, _, rfl, oa, _, rfl, g, _, rfl, iteF ?_⟩
                    refine ⟨_, rfl, _, rfl, oa, _, rfl, g, _, rfl, _, rfl, cn, _, rfl, gcn (Same.refl _), ned_ints el (mo _ _ elb) ⟨_, rfl, ?_⟩⟩
                    by_cases ho : os = c.2
                    · rw [if_pos (by rw [ho])] at cis
                      refine iteBF (by rw [decide_eq_true ho]; rfl) ?_
                      exact fin _ _ (Same.refl _) (by rw [cis]; rfl)
                    · rw [if_neg (fun z => ho (Option.some.inj z))] at cis
                      refine iteB (by rw [decide_eq_false ho]; rfl) ?_
                      refine ⟨_, rfl, _, _, rfl, rfl, _, rfl, _, rfl, cn, _, rfl, gcn (Same.refl _), l1, _, rfl, .inl (.inl (.inl (mo _ _ elb))), _, _, rfl, rfl, ?_⟩
                      exact fin _ _ (Same.refl _) (by rw [cis, List.length_map]; omega)
              · rintro σ Hz ⟨y12, y13, zs, rfl, kz, fz, ecz, enz, alz⟩
                rw [lzc] at enz alz
                rw [List.take_length] at enz alz
                refine ⟨ecz, y12, y13, zs, ?_, fun a o e => ?_, by rw [upd_ne ncd]; exact enz, alz.imp fun z c ⟨l, z1, z2, z3⟩ => ⟨l, z1, z2, by rw [upd_ne (fun y => by rw [y, ecd7] at z2; cases z2)]; exact z3⟩⟩
                · rw [lzc, List.take_length, sum_take1 (costA D rs) em, Nat.add_assoc]
                  rfl
                · by_cases z : a = cd
                  · subst z
                    rw [upd_same]
                    rw [kx _ _ ecd7 ncy] at e
                    exact e
                  · rw [upd_ne z]
                    exact kz _ _ e z
            · rintro σ Hq ⟨y12, y13, zs, rfl, mq, ecq, alz⟩
              have eyq := mq _ _ eyx
              have tq : Hq tb = some (.tup [.ref sh, .ref cd]) := mq _ _ (zx.tup etb7)
              refine ⟨_, rfl, _, rfl, ya, _, rfl, gy eyq, tb, _, 0, _, rfl, rfl, SqT.of tq, rfl, _, rfl, (by show 2 ≤ sizeLine; decide), fun t nt => ?_⟩
              have mt := same_new (o := .tup [.ref sh, .ref cn]) nt
              obtain ⟨Ht, eHt⟩ : ∃ Ht, Ht = upd Hq t (.tup [.ref sh, .ref cn]) := ⟨_, rfl⟩
              have ett : Ht t = some (.tup [.ref sh, .ref cn]) := by rw [eHt, upd_same]
              rw [← eHt] at mt ⊢
              have mxt := mq.trans mt
              have ehq := mxt _ _ ehx
              have lts : ts.length = (ms.take i').length := by
                rw [hd.1, List.length_take]
                have := (List.getElem?_eq_some_iff.mp em).1
                omega
              have l3 : ms.length ≤ 3 := by
                have := dz.n.length_le
                rw [List.length_map] at this
                exact this
              have nkn : (Sum.inr m.n : Key) ∉ (ms.take i').map fun r : Am => (Sum.inr r.n : Key) := by
                have h1 := ndm.sublist ((List.take_sublist (i' + 1) ms).map fun r : Am => (Sum.inr r.n : Key))
                rw [List.take_add_one, em, List.map_append, List.nodup_append] at h1
                exact fun z => h1.2.2 _ z _ List.mem_cons_self rfl
              refine ⟨_, rfl, _, rfl, ha, _, rfl, DPut.k (k := Sum.inr m.n) ehq (by rw [zip_len lts]; exact small1000 (by rw [List.length_take]; omega)), ?_⟩
              rw [zip_push (key := fun r : Am => (Sum.inr r.n : Key)) (a := m) lts nkn]
              have e1 : ms.take i' ++ [m] = ms.take (i' + 1) := by rw [List.take_add_one, em]; rfl
              rw [e1]
              have kh : ∀ a o, Ht a = some o → a ≠ ha → (upd Ht ha (.dK (((ms.take (i' + 1)).map fun r : Am => (Sum.inr r.n : Key)).zip (ts ++ [.ref t])))) a = some o := fun a o e n => by rw [upd_ne n]; exact e
              have nh7 : ∀ {a o}, H7 a = some o → a ≠ ha := fun e => ne_of_none e nha
              have fzt : Fz H7 (upd Ht ha (.dK (((ms.take (i' + 1)).map fun r : Am => (Sum.inr r.n : Key)).zip (ts ++ [.ref t])))) := fun a o e => by
                rw [upd_ne (nh7 e)]
                exact zx.same mxt a o e
              refine ⟨_, _, _, _, ts ++ [.ref t], rfl, fun a o e n => kh _ _ (mxt _ _ (kx _ _ e n)) (nh7 e), fzt, kh _ _ (mxt _ _ eyx) nya.symm, upd_same, ?_, fun j hj => ?_⟩
              · rw [List.length_append, hd.1]
                rfl
              · have kk : ∀ a o, (∀ z, o ≠ .dK z) → Ht a = some o → (upd Ht ha (.dK (((ms.take (i' + 1)).map fun r : Am => (Sum.inr r.n : Key)).zip (ts ++ [.ref t])))) a = some o := fun a o k e => kh a o e fun z => by
                  rw [z, ehq] at e
                  exact k _ (Option.some.inj e).symm
                by_cases hj2 : j < i'
                · obtain ⟨x, t', m', e1, e2, e3, e4⟩ := hd.2 j hj2
                  refine ⟨x, t', m', e1, ?_, e3, e4.keep fun a o _ k e => kk a o k (mxt _ _ e)⟩
                  rw [List.getElem?_append_left (by rw [hd.1]; exact hj2)]
                  exact e2
                · have ej : j = i' := by omega
                  subst ej
                  refine ⟨.ref tb, .ref t, m, ev, ?_, em, tb, t, sh, cn, .ref cd, zs, rfl, rfl, etb7, zx.free (mq.free nt), ncn7, kk _ _ (fun _ z => nomatch z) ett, kk _ _ (fun _ z => nomatch z) (mt _ _ ecq), alz.imp fun z c ⟨l, z1, z2, z3⟩ => ⟨l, z1, z2, kk _ _ (fun _ z => nomatch z) (mt _ _ z3)⟩⟩
                  rw [List.getElem?_append_right (by rw [hd.1]; exact Nat.le_refl _), hd.1, Nat.sub_self]
                  rfl
          · rintro σ Hx ⟨y10, y11, y12, y13, ts, rfl, kx, zx, eyx, ehx, hd⟩
            rw [lza] at hd ehx
            rw [List.take_length] at ehx
            refine ⟨eyx, y10, y11, y12, y13, ts, ?_, fun a o e => ?_, by rw [upd_ne nya]; exact ehx, hd.keep fun a o n _ e => by rw [upd_ne (fun z => by rw [z, eya7] at n; cases n)]; exact e⟩
            · rw [lza, List.take_length]
              rfl
            · by_cases z : a = ya
              · subst z
                rw [upd_same]
                rw [eya7] at e
                exact e
              · rw [upd_ne z]
                exact kx _ _ e z
        · rintro σ Hq ⟨y10, y11, y12, y13, ts, rfl, mq, ehq, hdq⟩
          have Iq := I7.same mq
          have nq : ∀ {a : Addr}, H7 a = none → ¬ ftS s d p st.cs.length a := fun n f => I7.k.occ _ f n
          have hzq : AmsD (hid (fLw s d p st.cs.length S lm) Hq) C (.ref ya) ms := hz.same (hid_of_same mq)
          have hyh := hdq.ams (G := ftS s d p st.cs.length) (ya := ya) ala mq I7.k.occ (fun a f => .inl f) nha ehq
          obtain ⟨dxs, ras, ys, hi, _⟩ := Iq.k.i
          have l4800 := Iq.lw.d
          have c600 := cost_le (D := D) (rs := rs) dz
          refine ⟨_, rfl, s, dxs, _, rfl, hi, rfl, _, rfl, ?_⟩
          refine ⟨s, d, .ref ha, st, p, (rs.length : Int) + 1, 0, rs, ms, D, (fun a => a = S ∨ a = lm), rfl, ?_⟩
          refine ⟨Iq.k, Iq.gok NE, Iq.q, hyh, Iq.rd, Iq.lw.ok, Iq.rn, dz.wf, by omega, c600, fun as X ev lX ok => ?_, fun H' p' st' as X ss S' G' qu' rt' ro' rd' x0 x1 ev ok lX => ?_⟩
          · have L := Iq.lw.step li8 dz ev lX ok
            exact ⟨L.gv, L.ert _ _, L.wfr⟩
          have out : ∀ {a o}, Hq a = some o → ¬ ftS s d p st.cs.length a → H' a = some o := fun e n => ss.o _ _ e n
          refine ⟨_, rfl, _, _, rfl, rfl, rfl, _, rfl, ?_⟩
          refine iteBF (by rw [li]; simp) ?_
          have kF : Same (hid (fLw s d p st.cs.length S lm) H7) H' := fun a o e => out (mq _ _ (hid_some e).2) fun z => (hid_some e).1 (.inl z)
          have eya' := kF _ _ eya
          have ndms := dz.wf.nd
          refine ⟨_, rfl, _, rfl, ha, ya, _, _, rfl, rfl, out ehq (nq nha), eya', by rw [zip_len hdq.1, zip_len ala.1], hdq.ne ala ndms (fun m hm => asc_ndm (dz.m m hm).wf.1) (fun a o n e => out e (nq n)) kF, _, rfl, iteF ?_⟩
          obtain ⟨kvs, ekv, lk, I2⟩ := Iq.put NE li8 hzq dz ss S' G' qu' rt' ro' rd' x0 ev ok lX
          have e01 : (0 + (i : Int)) + 1 = (rs.length : Int) + 1 := by omega
          refine ⟨_, rfl, _, rfl, _, rfl, _, _, rfl, rfl, lm, _, rfl, DPut.k (k := Sum.inl ((0 + (i : Int)) + 1)) ekv (small1000 (Nat.le_of_lt lk)), ?_⟩
          rw [e01]
          obtain ⟨H2, eH2⟩ : ∃ H2, H2 = upd H' lm (.dK (putK kvs (Sum.inl ((rs.length : Int) + 1)) (.ref ya))) := ⟨_, rfl⟩
          rw [← eH2] at I2 ⊢
          refine ⟨_, rfl, ?_⟩
          obtain ⟨dxd, hd2⟩ := I2.k.k.inst
          have lX' : (D ++ X).length = D.length + cost D rs ms := by rw [List.length_append, lX]
          rw [← lX']
          obtain ⟨D2, eD2⟩ : ∃ D2, D2 = D ++ X := ⟨_, rfl⟩
          have hrs2 : (rs ++ [(⟨(rs.length : Int) + 1, as⟩ : Ve)]).length = i + 1 := by rw [List.length_append, li]; rfl
          obtain ⟨rs2, ers2⟩ : ∃ rs2, rs2 = rs ++ [(⟨(rs.length : Int) + 1, as⟩ : Ve)] := ⟨_, rfl⟩
          rw [← eD2, ← ers2] at I2
          rw [← ers2] at hrs2
          rw [← eD2]
          refine ⟨_, rfl, d, dxd, _, rfl, hd2, rfl, d, st', p', "data.0", rfl, I2.k.k, I2.q.n.g, ?_⟩
          by_cases hD : (D2.length : Int) = 0
          · have d0 : D2 = [] := List.eq_nil_of_length_eq_zero (by omega)
            rw [show st'.rd "data.0" = none from by rw [← dN0]; exact I2.r0 d0]
            refine ⟨_, rfl, (by show 2 ≤ sizeLine; decide), fun l nl => ?_⟩
            refine ⟨_, rfl, rfl, .inr ⟨_, rfl, l, _, 1, .non, rfl, by rw [hD]; rfl, .inl (.inl upd_same), rfl, rfl, _, rfl, iteF ?_⟩⟩
            have I2 := I2.same (same_new (o := .lst [.int (D2.length : Int), .non]) nl)
            generalize (upd H2 l (.lst [.int (D2.length : Int), .non])) = H2 at I2
            refine ⟨_, rfl, _, rfl, S, scr, 3, ns, rfl, by decide, by decide, I2.aS, I2.sq0 _ (fun _ _ e _ => e), fun H3 v' x3 t3 v0' v3' => ⟨rfl, _, rfl, ?_⟩⟩
            have I3 := I2.ex x3 t3
            by_cases hv : v' = 0
            · refine iteB (decide_eq_true (by rw [hv])) ?_
              obtain ⟨dxd3, hd3⟩ := I3.k.k.inst
              refine ⟨_, rfl, d, dxd3, _, rfl, hd3, rfl, (by show 0 ≤ sizeLine; decide), fun le nle => ?_⟩
              have m4 := same_new (o := .lst []) nle
              obtain ⟨H4, eH4⟩ : ∃ H4, H4 = upd H3 le (.lst []) := ⟨_, rfl⟩
              have ele : H4 le = some (.lst []) := by rw [eH4, upd_same]
              rw [← eH4] at m4 ⊢
              have I4 := I3.same m4
              refine ⟨d, le, st', p', rfl, I4.k.k, I4.q, ele, fun H5 d2 p2 st2 m5 k5 fr5 q5 r5 => ?_⟩
              have I5 := I4.same m5
              intro x dx nx ndx nex
              have mc : Same H5 (upd (upd H5 dx (.own x)) x (.ins CS dx [])) := mk_same nx ndx (fun c o e _ => e)
              refine ⟨x, dx, d2, st2, p2, (rs2.length : Int) + 1, 0, rs2, (fun _ => False), rfl, ?_⟩
              refine ⟨upd_same, k5.same mc, k5.nfree nx, fun a z => z.elim, q5.n, by unfold RootIs; rw [r5]; exact I5.ro, ⟨by decide, by decide⟩, I5.lw.wfr, fun n hn => I5.fl n (by rw [← r5]; exact hn), fun H6 x6 st6 sg6 => ⟨rfl, ?_⟩⟩
              have I6 := I5.same (mk_same nx ndx x6)
              refine ⟨_, rfl, _, rfl, x, d2, lm, st2, p2, (rs2.length : Int) + 1, 0, rs2, D2, rfl, st6, by rw [r5]; exact I6.rd, I6.lw.lwr, I6.mdD, fun H7' m7 => ⟨_, rfl, iteF ?_⟩⟩
              have I7' := I6.same m7
              refine ⟨_, rfl, ?_⟩
              intro s2 dxs2 ns2 ndxs2 nexs2
              have mc2 : Same H7' (upd (upd H7' dxs2 (.own s2)) s2 (.ins CS dxs2 [])) := mk_same ns2 ndxs2 (fun c o e _ => e)
              have gk := I7'.gok NE
              refine ⟨s2, dxs2, d, st', p', (rs2.length : Int) + 1, 0, rs2, (fun a => a = S ∨ a = lm), rfl, ?_⟩
              refine ⟨upd_same, I7'.k.k.same mc2, I7'.k.k.nfree ns2, fun a z => ?_, I7'.q.n, I7'.ro, ⟨by decide, by decide⟩, I7'.lw.wfr, I7'.fl, fun H9 x9 st9 sg9 => ⟨rfl, ?_⟩⟩
              · obtain ⟨_, o, eo, ko⟩ := gk a z
                exact ⟨fun y => (by rw [y, ns2] at eo; cases eo), o, mc2 _ _ eo, ko⟩
              exact ⟨s2, ya, _, _, _, _, _, _, _, st', p', D2, rs2, rfl, I7'.reopen (mk_same ns2 ndxs2 x9) ns2 st9 sg9, hrs2⟩
            · refine iteBF (decide_eq_false (fun z => hv (V.int.inj z))) ?_
              exact ⟨s, ya, _, _, _, _, _, _, _, st', p', D2, rs2, rfl, I3, hrs2⟩
          · have d0 : D2 ≠ [] := fun z => hD (by rw [z]; rfl)
            have rdS : st'.rd "data.0" = some D2 := by
              have r := I2.rd
              rw [dN0] at r
              cases e : st'.rd "data.0" with
              | none =>
                rw [e] at r
                exact absurd r.symm d0
              | some o =>
                rw [e] at r
                exact congrArg some r
            rw [rdS]
            refine ⟨_, rfl, (by show 2 ≤ sizeLine; decide), fun l nl => ?_⟩
            refine ⟨_, rfl, rfl, .inr ⟨_, rfl, l, _, 0, .int (D2.length : Int), rfl, by rw [decide_eq_false (fun z => hD (V.int.inj z))]; rfl, .inl (.inl upd_same), rfl, rfl, _, rfl, iteBF (by rw [decide_eq_true (show szV (some D2) = V.int (D2.length : Int) from rfl)]; rfl) ?_⟩⟩
            have I2 := I2.same (same_new (o := .lst [.int (D2.length : Int), .non]) nl)
            generalize (upd H2 l (.lst [.int (D2.length : Int), .non])) = H2 at I2
            refine ⟨_, rfl, _, rfl, S, scr, 3, ns, rfl, by decide, by decide, I2.aS, I2.sq0 _ (fun _ _ e _ => e), fun H3 v' x3 t3 v0' v3' => ⟨rfl, _, rfl, ?_⟩⟩
            have I3 := I2.ex x3 t3
            by_cases hv : v' = 0
            · refine iteB (decide_eq_true (by rw [hv])) ?_
              obtain ⟨dxd3, hd3⟩ := I3.k.k.inst
              refine ⟨_, rfl, d, dxd3, _, rfl, hd3, rfl, (by show 0 ≤ sizeLine; decide), fun le nle => ?_⟩
              have m4 := same_new (o := .lst []) nle
              obtain ⟨H4, eH4⟩ : ∃ H4, H4 = upd H3 le (.lst []) := ⟨_, rfl⟩
              have ele : H4 le = some (.lst []) := by rw [eH4, upd_same]
              rw [← eH4] at m4 ⊢
              have I4 := I3.same m4
              refine ⟨d, le, st', p', rfl, I4.k.k, I4.q, ele, fun H5 d2 p2 st2 m5 k5 fr5 q5 r5 => ?_⟩
              have I5 := I4.same m5
              intro x dx nx ndx nex
              have mc : Same H5 (upd (upd H5 dx (.own x)) x (.ins CS dx [])) := mk_same nx ndx (fun c o e _ => e)
              refine ⟨x, dx, d2, st2, p2, (rs2.length : Int) + 1, 0, rs2, (fun _ => False), rfl, ?_⟩
              refine ⟨upd_same, k5.same mc, k5.nfree nx, fun a z => z.elim, q5.n, by unfold RootIs; rw [r5]; exact I5.ro, ⟨by decide, by decide⟩, I5.lw.wfr, fun n hn => I5.fl n (by rw [← r5]; exact hn), fun H6 x6 st6 sg6 => ⟨rfl, ?_⟩⟩
              have I6 := I5.same (mk_same nx ndx x6)
              refine ⟨_, rfl, _, rfl, x, d2, lm, st2, p2, (rs2.length : Int) + 1, 0, rs2, D2, rfl, st6, by rw [r5]; exact I6.rd, I6.lw.lwr, I6.mdD, fun H7' m7 => ⟨_, rfl, iteF ?_⟩⟩
              have I7' := I6.same m7
              refine ⟨_, rfl, ?_⟩
              intro s2 dxs2 ns2 ndxs2 nexs2
              have mc2 : Same H7' (upd (upd H7' dxs2 (.own s2)) s2 (.ins CS dxs2 [])) := mk_same ns2 ndxs2 (fun c o e _ => e)
              have gk := I7'.gok NE
              refine ⟨s2, dxs2, d, st', p', (rs2.length : Int) + 1, 0, rs2, (fun a => a = S ∨ a = lm), rfl, ?_⟩
              refine ⟨upd_same, I7'.k.k.same mc2, I7'.k.k.nfree ns2, fun a z => ?_, I7'.q.n, I7'.ro, ⟨by decide, by decide⟩, I7'.lw.wfr, I7'.fl, fun H9 x9 st9 sg9 => ⟨rfl, ?_⟩⟩
              · obtain ⟨_, o, eo, ko⟩ := gk a z
                exact ⟨fun y => (by rw [y, ns2] at eo; cases eo), o, mc2 _ _ eo, ko⟩
              exact ⟨s2, ya, _, _, _, _, _, _, _, st', p', D2, rs2, rfl, I7'.reopen (mk_same ns2 ndxs2 x9) ns2 st9 sg9, hrs2⟩
            · refine iteBF (decide_eq_false (fun z => hv (V.int.inj z))) ?_
              exact ⟨s, ya, _, _, _, _, _, _, _, st', p', D2, rs2, rfl, I3, hrs2⟩
      · rintro σ H7 ⟨s, lb, y7, y8, y9, y10, y11, y12, y13, st, p, D, rs, rfl, I7, _⟩
        exact ⟨s, lb, y7, y8, y9, y10, y11, y12, y13, st, p, D, rs, rfl, I7⟩
    rintro σ H6 ⟨s, lb, y7, y8, y9, y10, y11, y12, y13, st, p, D, rs, rfl, I6⟩
    obtain ⟨dxd, hd⟩ := I6.k.k.inst
    refine ⟨_, rfl, d, dxd, _, rfl, hd, rfl, d, st, p, _, rfl, I6.k.k, I6.q.n.g.T, fun H7 q1 m7 n7 e7 => ?_⟩
    rw [I6.names] at e7
    have I7 := I6.same m7
    obtain ⟨k1, hk1, ge1, le1, fl1⟩ : ∃ k : Int, (if (!decide (szV (st.rd "data.0") = V.non)) = true then (1 : Int) else 0) = k ∧ 0 ≤ k ∧ k ≤ 1 ∧ (List.replicate k.toNat [V.str "data.0"]).flatten = (if D = [] then ([] : List Str) else [("data.0" : Str)]).map V.str := by
      by_cases d0 : D = []
      · refine ⟨0, ?_, by decide, by decide, ?_⟩
        · rw [← dN0, I6.r0 d0]
          rfl
        · rw [if_pos d0]
          rfl
      · refine ⟨1, ?_, by decide, by decide, ?_⟩
        · have r := I6.rd
          rw [dN0] at r
          cases e : st.rd "data.0" with
          | none =>
            rw [e] at r
            exact absurd r.symm d0
          | some o => rfl
        · rw [if_neg d0]
          rfl
    obtain ⟨mx, em, ml⟩ := I7.md
    have lmd : (((mdl D rs).map fun m : Int × List Am => (Sum.inl m.1 : Key)).zip mx).length = rs.length := by
      rw [zip_len ml.1]
      unfold mdl
      rw [List.length_map]
    have n8 := I7.lw.n
    obtain ⟨k2, hk2, ge2, le2, fl2⟩ : ∃ k : Int, (if decide ((0 : Int) < ((((mdl D rs).map fun m : Int × List Am => (Sum.inl m.1 : Key)).zip mx).length : Int)) = true then (1 : Int) else 0) = k ∧ 0 ≤ k ∧ k ≤ 1 ∧ (List.replicate k.toNat [V.str "root"]).flatten = (if rs = [] then ([] : List Str) else [("root" : Str)]).map V.str := by
      rw [lmd]
      by_cases r0 : rs = []
      · refine ⟨0, ?_, by decide, by decide, ?_⟩
        · rw [r0]
          rfl
        · rw [if_pos r0]
          rfl
      · refine ⟨1, ?_, by decide, by decide, ?_⟩
        · have : 0 < rs.length := List.length_pos_iff.mpr r0
          rw [decide_eq_true (by omega : (0 : Int) < (rs.length : Int))]
          rfl
        · rw [if_neg r0]
          rfl
    refine ⟨(by show 1 ≤ sizeLine; decide), fun l1 nl1 => ?_⟩
    have m8 := same_new (o := .lst [.str "data.0"]) nl1
    obtain ⟨H8, eH8⟩ : ∃ H8, H8 = upd H7 l1 (.lst [.str "data.0"]) := ⟨_, rfl⟩
    have el1 : H8 l1 = some (.lst [.str "data.0"]) := by rw [eH8, upd_same]
    rw [← eH8] at m8 ⊢
    have I8 := I7.same m8
    refine ⟨_, rfl, d, dxd, _, rfl, m8 _ _ (m7 _ _ hd), rfl, d, st, p, "data.0", rfl, I8.k.k, I8.q.n.g, rfl, .inr ⟨_, rfl, l1, k1, _, rfl, congrArg V.int hk1, el1, by omega, by omega, ?_, fun p1 np1 => ?_⟩⟩
    · have := small1000 (n := 1) (by decide)
      have : k1.toNat ≤ 1 := by omega
      show 1 * k1.toNat ≤ sizeLine
      omega
    rw [fl1]
    have m9 := same_new (o := .lst ((if D = [] then ([] : List Str) else [("data.0" : Str)]).map V.str)) np1
    obtain ⟨H9, eH9⟩ : ∃ H9, H9 = upd H8 p1 (.lst ((if D = [] then ([] : List Str) else [("data.0" : Str)]).map V.str)) := ⟨_, rfl⟩
    have ep1 : H9 p1 = some (.lst ((if D = [] then ([] : List Str) else [("data.0" : Str)]).map V.str)) := by rw [eH9, upd_same]
    rw [← eH9] at m9 ⊢
    refine ⟨(by show 1 ≤ sizeLine; decide), fun l2 nl2 => ?_⟩
    have ma := same_new (o := .lst [.str "root"]) nl2
    obtain ⟨Ha, eHa⟩ : ∃ Ha, Ha = upd H9 l2 (.lst [.str "root"]) := ⟨_, rfl⟩
    have el2 : Ha l2 = some (.lst [.str "root"]) := by rw [eHa, upd_same]
    rw [← eHa] at ma ⊢
    have m7a := m8.trans (m9.trans ma)
    refine ⟨_, rfl, lm, _, rfl, .inl (m7a _ _ em), by rw [lmd]; omega, _, _, rfl, rfl, .inr ⟨_, rfl, l2, k2, _, rfl, congrArg V.int hk2, el2, by omega, by omega, ?_, fun p2 np2 => ?_⟩⟩
    · have := small1000 (n := 1) (by decide)
      have : k2.toNat ≤ 1 := by omega
      show 1 * k2.toNat ≤ sizeLine
      omega
    rw [fl2]
    have mb := same_new (o := .lst ((if rs = [] then ([] : List Str) else [("root" : Str)]).map V.str)) np2
    obtain ⟨Hb, eHb⟩ : ∃ Hb, Hb = upd Ha p2 (.lst ((if rs = [] then ([] : List Str) else [("root" : Str)]).map V.str)) := ⟨_, rfl⟩
    have ep2 : Hb p2 = some (.lst ((if rs = [] then ([] : List Str) else [("root" : Str)]).map V.str)) := by rw [eHb, upd_same]
    rw [← eHb] at mb ⊢
    refine ⟨p1, p2, _, _, rfl, rfl, mb _ _ (ma _ _ ep1), ep2, ?_, fun p3 np3 => ?_⟩
    · refine Nat.le_of_lt (small1000 ?_)
      rw [List.length_map, List.length_map]
      split <;> split <;> decide
    rw [← List.map_append, show (if D = [] then ([] : List Str) else [("data.0" : Str)]) ++ (if rs = [] then ([] : List Str) else [("root" : Str)]) = nmsL D rs from rfl]
    have mc := same_new (o := .lst ((nmsL D rs).map V.str)) np3
    have m7c := m7a.trans (mb.trans mc)
    refine ne_strs0 (nmsL_ok D rs).2.2 (m7c _ _ e7) upd_same ⟨_, rfl, iteF ?_⟩
    obtain ⟨Hc, eHc⟩ : ∃ Hc, Hc = upd Hb p3 (.lst ((nmsL D rs).map V.str)) := ⟨_, rfl⟩
    rw [← eHc] at m7c ⊢
    have Ic := I7.same m7c
    refine ⟨_, rfl, _, rfl, s, d, lm, st, p, _, 0, rs, D, rfl, Ic.k, Ic.rd, Ic.lw.lwr, Ic.mdD, fun Hd md => ⟨true, rfl, iteT ?_⟩⟩
    have Id := Ic.same md
    refine ⟨_, rfl, s, d, st, p, _, 0, rs, 0, rfl, Id.k, fun z => ?_, fun He me => ⟨true, rfl, iteT ?_⟩⟩
    · obtain ⟨r, hr, e⟩ := List.mem_map.mp z
      have := (Id.lw.nos hr).1
      omega
    have Ie := Id.same me
    refine ⟨_, rfl, _, rfl, lm, _, rfl, .inl ((m7c.trans (md.trans me)) _ _ em), by rw [lmd]; omega, _, _, rfl, rfl, s, d, st, p, _, 0, rs, _, rfl, Ie.k, fun z => ?_, fun Hf mf => q _⟩
    obtain ⟨r, hr, e⟩ := List.mem_map.mp z
    have := (Ie.lw.nos hr).2
    rw [lmd] at e
    omega
end
end K2

namespace K2
open PySem L2
/-! ### an end by one run of the top: facts about the written part that can be decided -/
abbrev FB : Type := PySem.W.Frag → Bool
abbrev AlM : Type := Bool × List He.FnV
def obsM (fb : List FB) (fn : List He.FnD) (K : PySem.W.Frag) : AlM := ((fb.all fun f => f K) && fn.all fun d => PySem.W.keepIn K (.ref (He.fAd K d.at_)) && (He.Fa.code d.at_ d.qual).ok K, fn.map fun d => He.fnObs K d.at_)
def valM (fn : List He.FnD) : AlM := (true, fn.map He.FnD.val)
/-- what the module's names reach: functions' code, classes' methods and theirs -/
def refsF (o : Obj) : List Addr := match o.data with
  | .dict es _ => es.toList.flatMap fun e => He.refV e.val
  | .func fd => He.refV fd.code
  | .cls cd => [cd.ns]
  | _ => []
def nextF (g : Addr → Option Obj) (as : List Addr) : List Addr := as.flatMap fun a => match g a with
  | some o => refsF o
  | none => []
def asF (g : Addr → Option Obj) : List Addr := mainGlobals :: cStatics :: (nextF g [mainGlobals] ++ (nextF g (nextF g [mainGlobals]) ++ (nextF g (nextF g (nextF g [mainGlobals])) ++ nextF g (nextF g (nextF g (nextF g [mainGlobals]))))))
def hookM (fb : List FB) (fn : List He.FnD) : PySem.W.Hook where
  α := AlM
  obs := fun s => obsM fb fn (He.frG s.heap.get? (asF s.heap.get?))
  val := fun _ => valM fn
  says := fun _ h => ∃ K : PySem.W.Frag, K.In h ∧ obsM fb fn K = valM fn
  of := fun _ _ e => ⟨_, He.frG_in, e⟩
  keeps := fun _ _ _ ⟨K, hK, c⟩ k => ⟨K, PySem.W.Frag.In.keeps hK k, c⟩
def obM (fb : List FB) (fn : List He.FnD) (s : PySem.W.SharedT) : AlM := obsM fb fn (He.frG (HandSHeadRun.getT s) (asF (HandSHeadRun.getT s)))
theorem obM_eq (fb : List FB) (fn : List He.FnD) (s : PySem.W.SharedT) : obM fb fn s = (hookM fb fn).obs s.abs := by
  have e : HandSHeadRun.getT s = s.abs.heap.get? := funext (HandSHeadRun.getT_eq s)
  unfold obM
  rw [e]
  rfl
section
variable {fb : List FB} {fn : List He.FnD} {K : PySem.W.Frag}
theorem fb_at (c : obsM fb fn K = valM fn) : ∀ f ∈ fb, f K = true := by
  have c1 := (He.ba (show ((fb.all fun f => f K) && fn.all fun d => PySem.W.keepIn K (.ref (He.fAd K d.at_)) && (He.Fa.code d.at_ d.qual).ok K) = true from congrArg (fun z : AlM => z.1) c)).1
  exact List.all_eq_true.mp c1
theorem fb_all (c : obsM fb fn K = valM fn) : (fb.all fun f => f K) = true := (He.ba (show ((fb.all fun f => f K) && fn.all fun d => PySem.W.keepIn K (.ref (He.fAd K d.at_)) && (He.Fa.code d.at_ d.qual).ok K) = true from congrArg (fun z : AlM => z.1) c)).1
theorem fb_cons {f : FB} {r : List FB} (h : ((f :: r).all fun f => f K) = true) : f K = true ∧ (r.all fun f => f K) = true := He.ba h
theorem fn_at (c : obsM fb fn K = valM fn) (i : Nat) {d : He.FnD} (h : fn[i]? = some d) :
    (∃ oc od osl kV doc pm an cdv ct, K.lookup (He.fAd K d.at_) = some ⟨oc, od, .func (PySem.W.fnOf d.name d.qual d.params d.body d.scope .none kV doc pm an cdv ct), osl⟩ ∧ PySem.W.codeIn K cdv d.qual = true) ∧ PySem.W.keepIn K (.ref (He.fAd K d.at_)) = true := by
  have c2 := (He.ba (show ((fb.all fun f => f K) && fn.all fun d => PySem.W.keepIn K (.ref (He.fAd K d.at_)) && (He.Fa.code d.at_ d.qual).ok K) = true from congrArg (fun z : AlM => z.1) c)).2
  have e : fn.map (fun d => He.fnObs K d.at_) = fn.map He.FnD.val := congrArg (fun z : AlM => z.2) c
  have e2 : (fn.map fun d => He.fnObs K d.at_)[i]? = (fn.map He.FnD.val)[i]? := by rw [e]
  rw [List.getElem?_map, List.getElem?_map, h] at e2
  obtain ⟨k1, k2⟩ := He.ba (List.all_eq_true.mp c2 d (List.mem_of_getElem? h))
  exact ⟨He.fn_ok (Option.some.inj e2) k2, k1⟩
end
/-! kinds of facts -/
def gintB (x : Str) (i : Int) : FB := fun K => (match PySem.W.nsIn K mainGlobals x with
  | some (some (.int j _)) => decide (j = i)
  | _ => false)
def gstrB (x z : Str) : FB := fun K => (match PySem.W.nsIn K mainGlobals x with
  | some (some (.str y _)) => decide (y = z)
  | _ => false)
theorem gintB_ok {K : PySem.W.Frag} {x : Str} {i : Int} (c : gintB x i K = true) : ∃ t, PySem.W.nsIn K mainGlobals x = some (some (.int i t)) := by
  have c2 : (match PySem.W.nsIn K mainGlobals x with
    | some (some (.int j _)) => decide (j = i)
    | _ => false) = true := c
  cases e : PySem.W.nsIn K mainGlobals x with
  | none => rw [e] at c2; cases c2
  | some o =>
    rw [e] at c2
    cases o with
    | none => cases c2
    | some v =>
      cases v with
      | int j t =>
        have ej : j = i := of_decide_eq_true c2
        exact ⟨t, by rw [ej]⟩
      | _ => cases c2
theorem gstrB_ok {K : PySem.W.Frag} {x z : Str} (c : gstrB x z K = true) : ∃ t, PySem.W.nsIn K mainGlobals x = some (some (.str z t)) := by
  have c2 : (match PySem.W.nsIn K mainGlobals x with
    | some (some (.str y _)) => decide (y = z)
    | _ => false) = true := c
  cases e : PySem.W.nsIn K mainGlobals x with
  | none => rw [e] at c2; cases c2
  | some o =>
    rw [e] at c2
    cases o with
    | none => cases c2
    | some v =>
      cases v with
      | str j t =>
        have ej : j = z := of_decide_eq_true c2
        exact ⟨t, by rw [ej]⟩
      | _ => cases c2
def tupB (x : Str) (vs : List V) : FB := fun K => match K.lookup (He.ga K x) with
  | some ⟨.type c, dd, .seq its _, _⟩ => decide (c = "tuple") && (decide (dd = none) && He.relAll vs its.toList)
  | _ => false
theorem tupB_ok {K : PySem.W.Frag} {x : Str} {vs : List V} (h : tupB x vs K = true) : ∃ its n sl, K.lookup (He.ga K x) = some ⟨.type "tuple", none, .seq its n, sl⟩ ∧ Vals vs its.toList := by
  unfold tupB at h
  cases q : K.lookup (He.ga K x) with
  | none => rw [q] at h; cases h
  | some o =>
    obtain ⟨oc, od, dt, osl⟩ := o
    rw [q] at h
    cases oc with
    | type c =>
      cases dt with
      | seq its n =>
        obtain ⟨h1, h2⟩ := He.ba (show (decide (c = "tuple") && (decide (od = none) && He.relAll vs its.toList)) = true from h)
        obtain ⟨h3, h4⟩ := He.ba h2
        refine ⟨its, n, osl, ?_, He.relAll_ok h4⟩
        rw [of_decide_eq_true h1, of_decide_eq_true h3]
      | _ => cases h
    | _ => cases dt <;> cases h
theorem seq_of {its : Array Value} {l : List Value} (h : its.toList = l) : its = l.toArray := by rw [← h]
theorem seq_of' {its : Array (Option Value)} {l : List (Option Value)} (h : its.toList = l) : its = l.toArray := by rw [← h]
theorem vs_cons {v : V} {vs : List V} {l : List Value} (h : Vals (v :: vs) l) : ∃ u r, l = u :: r ∧ RelV v u ∧ Vals vs r := by
  cases h with
  | cons h t => exact ⟨_, _, rfl, h, t⟩
theorem vs_nil {l : List Value} (h : Vals [] l) : l = [] := by cases h; rfl
def slB (x : Str) : List (Option Value) → Bool
  | [_, _, some (.str y _), _, some (.builtin b), _] => decide (y = x) && decide (b = "ValueError.__new__")
  | _ => false
theorem slB_ok {x : Str} {l : List (Option Value)} (h : slB x l = true) : ∃ k0 k1 t k3 k5, l = [k0, k1, some (.str x t), k3, some (.builtin "ValueError.__new__"), k5] := by
  unfold slB at h
  split at h
  · rename_i s0 s1 y t s3 b s5
    obtain ⟨e1, e2⟩ := He.ba h
    exact ⟨s0, s1, t, s3, s5, by rw [of_decide_eq_true e1, of_decide_eq_true e2]⟩
  · cases h
def excO (C M : Addr) (x : Str) (c : String) (cd : ClassData) (sl : List (Option Value)) : Bool := decide (c = "type") && (decide (cd.mro = [.ref C, .ref M, .type "ValueError", .type "Exception", .type "BaseException", .type "object"]) && (cd.hasDict && (!cd.hasDel && slB x sl)))
def excB (x cm : Str) : FB := fun K => match K.lookup (He.ga K x) with
  | some ⟨.type c, _, .cls cd, sl⟩ => excO (He.ga K x) (He.ga K cm) x c cd sl.toList
  | _ => false
theorem excO_ok {C M : Addr} {x : Str} {c : String} {cd : ClassData} {od : Option Addr} {sl : Array (Option Value)} (h : excO C M x c cd sl.toList = true) : ∃ nm q N bs sn sub ab col dd k0 k1 t k3 k5, (⟨.type c, od, .cls cd, sl⟩ : Obj) = excClassObj nm q C N bs [.ref M, .type "ValueError", .type "Exception", .type "BaseException", .type "object"] true sn sub ab col dd k0 k1 (some (.str x t)) k3 k5 "ValueError.__new__" := by
  obtain ⟨b1, h⟩ := He.ba h
  obtain ⟨b2, h⟩ := He.ba h
  obtain ⟨b3, h⟩ := He.ba h
  obtain ⟨b4, h⟩ := He.ba h
  obtain ⟨k0, k1, t, k3, k5, es⟩ := slB_ok h
  obtain ⟨a1, a2, a3, a4, a5, a6, a7, a8, a9, a10, a11⟩ := cd
  have e2 : a3 = _ := of_decide_eq_true b2
  have e3 : a6 = true := b3
  have e4 : a11 = false := by
    cases a11 with
    | false => rfl
    | true => cases b4
  have e1 : c = "type" := of_decide_eq_true b1
  have e5 := seq_of' es
  exact ⟨a1, a5, a4, a2, a7, a8, a9, a10, od, k0, k1, t, k3, k5, by rw [e1, e2, e3, e4, e5]⟩
theorem excB_ok {K : PySem.W.Frag} {x cm : Str} (h : excB x cm K = true) : ∃ nm q N bs sn sub ab col dd k0 k1 t k3 k5, K.lookup (He.ga K x) = some (excClassObj nm q (He.ga K x) N bs [.ref (He.ga K cm), .type "ValueError", .type "Exception", .type "BaseException", .type "object"] true sn sub ab col dd k0 k1 (some (.str x t)) k3 k5 "ValueError.__new__") := by
  unfold excB at h
  cases q : K.lookup (He.ga K x) with
  | none => rw [q] at h; cases h
  | some o =>
    obtain ⟨oc, od, dt, osl⟩ := o
    rw [q] at h
    cases oc with
    | type c =>
      cases dt with
      | cls cd =>
        obtain ⟨nm, q, N, bs, sn, sub, ab, col, dd, k0, k1, t, k3, k5, e⟩ := excO_ok (od := od) (show excO (He.ga K x) (He.ga K cm) x c cd osl.toList = true from h)
        exact ⟨nm, q, N, bs, sn, sub, ab, col, dd, k0, k1, t, k3, k5, by rw [e]⟩
      | _ => cases h
    | _ => cases dt <;> cases h
def nameB (x : Str) : FB := fun K => match PySem.W.findCls K (.ref (He.ga K x)) (.type "type") "__name__" with
  | some (.get g a c m) => decide (g = .builtin "getset_descriptor.__get__") && (decide (a = .builtin "type.__name__") && (decide (c = .ref (He.ga K x)) && decide (m = .type "type")))
  | _ => false
theorem nameB_ok {K : PySem.W.Frag} {x : Str} (h : nameB x K = true) : PySem.W.findCls K (.ref (He.ga K x)) (.type "type") "__name__" = some (.get (.builtin "getset_descriptor.__get__") (.builtin "type.__name__") (.ref (He.ga K x)) (.type "type")) := by
  unfold nameB at h
  split at h
  · rename_i g a c m e
    obtain ⟨h1, h⟩ := He.ba h
    obtain ⟨h2, h⟩ := He.ba h
    obtain ⟨h3, h4⟩ := He.ba h
    rw [e, of_decide_eq_true h1, of_decide_eq_true h2, of_decide_eq_true h3, of_decide_eq_true h4]
  · cases h
end K2

namespace K2
open PySem L2
theorem all_mk {l : PySem.W.OpenLaw} {w : World} {K : PySem.W.Frag} {h : Heap} {mg : Str → Option Value} {fa : Addr} (X : K.In h) (G : h.Ns mainGlobals mg) (hfa : mg "law" = some (.ref fa))
    {f1 : Addr} {od1 an1 : Option Addr} {sl1 : Array (Option Value)} {oc1 kV1 dc1 pm1 cd1 ct1 : Value}
    (a1 : PySem.W.nsIn K mainGlobals "encode_text" = some (some (.ref f1))) (l1 : K.lookup f1 = some ⟨oc1, od1, .func (PySem.W.fnOf "encode_text" "encode_text" (defArgs sEncodeText) (defBody sEncodeText) (defScope sEncodeText) .none kV1 dc1 pm1 an1 cd1 ct1), sl1⟩) (c1 : PySem.W.codeIn K cd1 "encode_text" = true) (k1 : PySem.W.keepIn K (.ref f1) = true)
    {f2 : Addr} {od2 an2 : Option Addr} {sl2 : Array (Option Value)} {oc2 kV2 dc2 pm2 cd2 ct2 : Value}
    (a2 : PySem.W.nsIn K mainGlobals "decode_text" = some (some (.ref f2))) (l2 : K.lookup f2 = some ⟨oc2, od2, .func (PySem.W.fnOf "decode_text" "decode_text" (defArgs sDecodeText) (defBody sDecodeText) (defScope sDecodeText) .none kV2 dc2 pm2 an2 cd2 ct2), sl2⟩) (c2 : PySem.W.codeIn K cd2 "decode_text" = true) (k2 : PySem.W.keepIn K (.ref f2) = true)
    {f3 : Addr} {od3 an3 : Option Addr} {sl3 : Array (Option Value)} {oc3 kV3 dc3 pm3 cd3 ct3 : Value}
    (a3 : PySem.W.nsIn K mainGlobals "is_code" = some (some (.ref f3))) (l3 : K.lookup f3 = some ⟨oc3, od3, .func (PySem.W.fnOf "is_code" "is_code" (defArgs sIsCode) (defBody sIsCode) (defScope sIsCode) .none kV3 dc3 pm3 an3 cd3 ct3), sl3⟩) (c3 : PySem.W.codeIn K cd3 "is_code" = true) (k3 : PySem.W.keepIn K (.ref f3) = true)
    {f4 : Addr} {od4 an4 : Option Addr} {sl4 : Array (Option Value)} {oc4 kV4 dc4 pm4 cd4 ct4 : Value}
    (a4 : PySem.W.nsIn K mainGlobals "character_of" = some (some (.ref f4))) (l4 : K.lookup f4 = some ⟨oc4, od4, .func (PySem.W.fnOf "character_of" "character_of" (defArgs sCharacterOf) (defBody sCharacterOf) (defScope sCharacterOf) .none kV4 dc4 pm4 an4 cd4 ct4), sl4⟩) (c4 : PySem.W.codeIn K cd4 "character_of" = true) (k4 : PySem.W.keepIn K (.ref f4) = true)
    {f5 : Addr} {od5 an5 : Option Addr} {sl5 : Array (Option Value)} {oc5 kV5 dc5 pm5 cd5 ct5 : Value}
    (a5 : PySem.W.nsIn K mainGlobals "check_shape" = some (some (.ref f5))) (l5 : K.lookup f5 = some ⟨oc5, od5, .func (PySem.W.fnOf "check_shape" "check_shape" (defArgs sCheckShape) (defBody sCheckShape) (defScope sCheckShape) .none kV5 dc5 pm5 an5 cd5 ct5), sl5⟩) (c5 : PySem.W.codeIn K cd5 "check_shape" = true) (k5 : PySem.W.keepIn K (.ref f5) = true)
    {f6 : Addr} {od6 an6 : Option Addr} {sl6 : Array (Option Value)} {oc6 kV6 dc6 pm6 cd6 ct6 : Value}
    (a6 : PySem.W.nsIn K mainGlobals "is_dim" = some (some (.ref f6))) (l6 : K.lookup f6 = some ⟨oc6, od6, .func (PySem.W.fnOf "is_dim" "is_dim" (defArgs sIsDim) (defBody sIsDim) (defScope sIsDim) .none kV6 dc6 pm6 an6 cd6 ct6), sl6⟩) (c6 : PySem.W.codeIn K cd6 "is_dim" = true) (k6 : PySem.W.keepIn K (.ref f6) = true)
    {f7 : Addr} {od7 an7 : Option Addr} {sl7 : Array (Option Value)} {oc7 kV7 dc7 pm7 cd7 ct7 : Value}
    (a7 : PySem.W.nsIn K mainGlobals "is_attr" = some (some (.ref f7))) (l7 : K.lookup f7 = some ⟨oc7, od7, .func (PySem.W.fnOf "is_attr" "is_attr" (defArgs sIsAttr) (defBody sIsAttr) (defScope sIsAttr) .none kV7 dc7 pm7 an7 cd7 ct7), sl7⟩) (c7 : PySem.W.codeIn K cd7 "is_attr" = true) (k7 : PySem.W.keepIn K (.ref f7) = true)
    {f8 : Addr} {od8 an8 : Option Addr} {sl8 : Array (Option Value)} {oc8 kV8 dc8 pm8 cd8 ct8 : Value}
    (a8 : PySem.W.nsIn K mainGlobals "is_simple_name" = some (some (.ref f8))) (l8 : K.lookup f8 = some ⟨oc8, od8, .func (PySem.W.fnOf "is_simple_name" "is_simple_name" (defArgs sIsSimpleName) (defBody sIsSimpleName) (defScope sIsSimpleName) .none kV8 dc8 pm8 an8 cd8 ct8), sl8⟩) (c8 : PySem.W.codeIn K cd8 "is_simple_name" = true) (k8 : PySem.W.keepIn K (.ref f8) = true)
    {f9 : Addr} {od9 an9 : Option Addr} {sl9 : Array (Option Value)} {oc9 kV9 dc9 pm9 cd9 ct9 : Value}
    (a9 : PySem.W.nsIn K mainGlobals "sum_of" = some (some (.ref f9))) (l9 : K.lookup f9 = some ⟨oc9, od9, .func (PySem.W.fnOf "sum_of" "sum_of" (defArgs sSumOf) (defBody sSumOf) (defScope sSumOf) .none kV9 dc9 pm9 an9 cd9 ct9), sl9⟩) (c9 : PySem.W.codeIn K cd9 "sum_of" = true) (k9 : PySem.W.keepIn K (.ref f9) = true)
    {f10 : Addr} {od10 an10 : Option Addr} {sl10 : Array (Option Value)} {oc10 kV10 dc10 pm10 cd10 ct10 : Value}
    (a10 : PySem.W.nsIn K mainGlobals "write_four" = some (some (.ref f10))) (l10 : K.lookup f10 = some ⟨oc10, od10, .func (PySem.W.fnOf "write_four" "write_four" (defArgs sWriteFour) (defBody sWriteFour) (defScope sWriteFour) .none kV10 dc10 pm10 an10 cd10 ct10), sl10⟩) (c10 : PySem.W.codeIn K cd10 "write_four" = true) (k10 : PySem.W.keepIn K (.ref f10) = true)
    {f11 : Addr} {od11 an11 : Option Addr} {sl11 : Array (Option Value)} {oc11 kV11 dc11 pm11 cd11 ct11 : Value}
    (a11 : PySem.W.nsIn K mainGlobals "write_name" = some (some (.ref f11))) (l11 : K.lookup f11 = some ⟨oc11, od11, .func (PySem.W.fnOf "write_name" "write_name" (defArgs sWriteName) (defBody sWriteName) (defScope sWriteName) .none kV11 dc11 pm11 an11 cd11 ct11), sl11⟩) (c11 : PySem.W.codeIn K cd11 "write_name" = true) (k11 : PySem.W.keepIn K (.ref f11) = true)
    {f12 : Addr} {od12 an12 : Option Addr} {sl12 : Array (Option Value)} {oc12 kV12 dc12 pm12 cd12 ct12 : Value}
    (a12 : PySem.W.nsIn K mainGlobals "encode_root" = some (some (.ref f12))) (l12 : K.lookup f12 = some ⟨oc12, od12, .func (PySem.W.fnOf "encode_root" "encode_root" (defArgs sEncodeRoot) (defBody sEncodeRoot) (defScope sEncodeRoot) .none kV12 dc12 pm12 an12 cd12 ct12), sl12⟩) (c12 : PySem.W.codeIn K cd12 "encode_root" = true) (k12 : PySem.W.keepIn K (.ref f12) = true)
    {f13 : Addr} {od13 an13 : Option Addr} {sl13 : Array (Option Value)} {oc13 kV13 dc13 pm13 cd13 ct13 : Value}
    (a13 : PySem.W.nsIn K mainGlobals "write_shape" = some (some (.ref f13))) (l13 : K.lookup f13 = some ⟨oc13, od13, .func (PySem.W.fnOf "write_shape" "write_shape" (defArgs sWriteShape) (defBody sWriteShape) (defScope sWriteShape) .none kV13 dc13 pm13 an13 cd13 ct13), sl13⟩) (c13 : PySem.W.codeIn K cd13 "write_shape" = true) (k13 : PySem.W.keepIn K (.ref f13) = true)
    {f14 : Addr} {od14 an14 : Option Addr} {sl14 : Array (Option Value)} {oc14 kV14 dc14 pm14 cd14 ct14 : Value}
    (a14 : PySem.W.nsIn K mainGlobals "write_chunks" = some (some (.ref f14))) (l14 : K.lookup f14 = some ⟨oc14, od14, .func (PySem.W.fnOf "write_chunks" "write_chunks" (defArgs sWriteChunks) (defBody sWriteChunks) (defScope sWriteChunks) .none kV14 dc14 pm14 an14 cd14 ct14), sl14⟩) (c14 : PySem.W.codeIn K cd14 "write_chunks" = true) (k14 : PySem.W.keepIn K (.ref f14) = true)
    {f15 : Addr} {od15 an15 : Option Addr} {sl15 : Array (Option Value)} {oc15 kV15 dc15 pm15 cd15 ct15 : Value}
    (a15 : PySem.W.nsIn K mainGlobals "decode_root" = some (some (.ref f15))) (l15 : K.lookup f15 = some ⟨oc15, od15, .func (PySem.W.fnOf "decode_root" "decode_root" (defArgs sDecodeRoot) (defBody sDecodeRoot) (defScope sDecodeRoot) .none kV15 dc15 pm15 an15 cd15 ct15), sl15⟩) (c15 : PySem.W.codeIn K cd15 "decode_root" = true) (k15 : PySem.W.keepIn K (.ref f15) = true)
    {f16 : Addr} {od16 an16 : Option Addr} {sl16 : Array (Option Value)} {oc16 kV16 dc16 pm16 cd16 ct16 : Value}
    (a16 : PySem.W.nsIn K mainGlobals "read_arrays" = some (some (.ref f16))) (l16 : K.lookup f16 = some ⟨oc16, od16, .func (PySem.W.fnOf "read_arrays" "read_arrays" (defArgs sReadArrays) (defBody sReadArrays) (defScope sReadArrays) .none kV16 dc16 pm16 an16 cd16 ct16), sl16⟩) (c16 : PySem.W.codeIn K cd16 "read_arrays" = true) (k16 : PySem.W.keepIn K (.ref f16) = true)
    {f17 : Addr} {od17 an17 : Option Addr} {sl17 : Array (Option Value)} {oc17 kV17 dc17 pm17 cd17 ct17 : Value}
    (a17 : PySem.W.nsIn K mainGlobals "read_name" = some (some (.ref f17))) (l17 : K.lookup f17 = some ⟨oc17, od17, .func (PySem.W.fnOf "read_name" "read_name" (defArgs sReadName) (defBody sReadName) (defScope sReadName) .none kV17 dc17 pm17 an17 cd17 ct17), sl17⟩) (c17 : PySem.W.codeIn K cd17 "read_name" = true) (k17 : PySem.W.keepIn K (.ref f17) = true)
    {f18 : Addr} {od18 an18 : Option Addr} {sl18 : Array (Option Value)} {oc18 kV18 dc18 pm18 cd18 ct18 : Value}
    (a18 : PySem.W.nsIn K mainGlobals "read_shape" = some (some (.ref f18))) (l18 : K.lookup f18 = some ⟨oc18, od18, .func (PySem.W.fnOf "read_shape" "read_shape" (defArgs sReadShape) (defBody sReadShape) (defScope sReadShape) .none kV18 dc18 pm18 an18 cd18 ct18), sl18⟩) (c18 : PySem.W.codeIn K cd18 "read_shape" = true) (k18 : PySem.W.keepIn K (.ref f18) = true)
    {f19 : Addr} {od19 an19 : Option Addr} {sl19 : Array (Option Value)} {oc19 kV19 dc19 pm19 cd19 ct19 : Value}
    (a19 : PySem.W.nsIn K mainGlobals "read_dim" = some (some (.ref f19))) (l19 : K.lookup f19 = some ⟨oc19, od19, .func (PySem.W.fnOf "read_dim" "read_dim" (defArgs sReadDim) (defBody sReadDim) (defScope sReadDim) .none kV19 dc19 pm19 an19 cd19 ct19), sl19⟩) (c19 : PySem.W.codeIn K cd19 "read_dim" = true) (k19 : PySem.W.keepIn K (.ref f19) = true)
    {f20 : Addr} {od20 an20 : Option Addr} {sl20 : Array (Option Value)} {oc20 kV20 dc20 pm20 cd20 ct20 : Value}
    (a20 : PySem.W.nsIn K mainGlobals "read_attr" = some (some (.ref f20))) (l20 : K.lookup f20 = some ⟨oc20, od20, .func (PySem.W.fnOf "read_attr" "read_attr" (defArgs sReadAttr) (defBody sReadAttr) (defScope sReadAttr) .none kV20 dc20 pm20 an20 cd20 ct20), sl20⟩) (c20 : PySem.W.codeIn K cd20 "read_attr" = true) (k20 : PySem.W.keepIn K (.ref f20) = true)
    {f21 : Addr} {od21 an21 : Option Addr} {sl21 : Array (Option Value)} {oc21 kV21 dc21 pm21 cd21 ct21 : Value}
    (a21 : PySem.W.nsIn K mainGlobals "read_chunks" = some (some (.ref f21))) (l21 : K.lookup f21 = some ⟨oc21, od21, .func (PySem.W.fnOf "read_chunks" "read_chunks" (defArgs sReadChunks) (defBody sReadChunks) (defScope sReadChunks) .none kV21 dc21 pm21 an21 cd21 ct21), sl21⟩) (c21 : PySem.W.codeIn K cd21 "read_chunks" = true) (k21 : PySem.W.keepIn K (.ref f21) = true)
    {f22 : Addr} {od22 an22 : Option Addr} {sl22 : Array (Option Value)} {oc22 kV22 dc22 pm22 cd22 ct22 : Value}
    (a22 : PySem.W.nsIn K mainGlobals "data_file" = some (some (.ref f22))) (l22 : K.lookup f22 = some ⟨oc22, od22, .func (PySem.W.fnOf "data_file" "data_file" (defArgs sDataFile) (defBody sDataFile) (defScope sDataFile) .none kV22 dc22 pm22 an22 cd22 ct22), sl22⟩) (c22 : PySem.W.codeIn K cd22 "data_file" = true) (k22 : PySem.W.keepIn K (.ref f22) = true)
    {f23 : Addr} {od23 an23 : Option Addr} {sl23 : Array (Option Value)} {oc23 kV23 dc23 pm23 cd23 ct23 : Value}
    (a23 : PySem.W.nsIn K mainGlobals "root_on" = some (some (.ref f23))) (l23 : K.lookup f23 = some ⟨oc23, od23, .func (PySem.W.fnOf "root_on" "root_on" (defArgs sRootOn) (defBody sRootOn) (defScope sRootOn) .none kV23 dc23 pm23 an23 cd23 ct23), sl23⟩) (c23 : PySem.W.codeIn K cd23 "root_on" = true) (k23 : PySem.W.keepIn K (.ref f23) = true)
    {f24 : Addr} {od24 an24 : Option Addr} {sl24 : Array (Option Value)} {oc24 kV24 dc24 pm24 cd24 ct24 : Value}
    (a24 : PySem.W.nsIn K mainGlobals "records_by_version" = some (some (.ref f24))) (l24 : K.lookup f24 = some ⟨oc24, od24, .func (PySem.W.fnOf "records_by_version" "records_by_version" (defArgs sRecordsByVersion) (defBody sRecordsByVersion) (defScope sRecordsByVersion) .none kV24 dc24 pm24 an24 cd24 ct24), sl24⟩) (c24 : PySem.W.codeIn K cd24 "records_by_version" = true) (k24 : PySem.W.keepIn K (.ref f24) = true)
    {f25 : Addr} {od25 an25 : Option Addr} {sl25 : Array (Option Value)} {oc25 kV25 dc25 pm25 cd25 ct25 : Value}
    (a25 : PySem.W.nsIn K mainGlobals "change_names" = some (some (.ref f25))) (l25 : K.lookup f25 = some ⟨oc25, od25, .func (PySem.W.fnOf "change_names" "change_names" (defArgs sChangeNames) (defBody sChangeNames) (defScope sChangeNames) .none kV25 dc25 pm25 an25 cd25 ct25), sl25⟩) (c25 : PySem.W.codeIn K cd25 "change_names" = true) (k25 : PySem.W.keepIn K (.ref f25) = true)
    {f26 : Addr} {od26 an26 : Option Addr} {sl26 : Array (Option Value)} {oc26 kV26 dc26 pm26 cd26 ct26 : Value}
    (a26 : PySem.W.nsIn K mainGlobals "octets_left" = some (some (.ref f26))) (l26 : K.lookup f26 = some ⟨oc26, od26, .func (PySem.W.fnOf "octets_left" "octets_left" (defArgs sOctetsLeft) (defBody sOctetsLeft) (defScope sOctetsLeft) .none kV26 dc26 pm26 an26 cd26 ct26), sl26⟩) (c26 : PySem.W.codeIn K cd26 "octets_left" = true) (k26 : PySem.W.keepIn K (.ref f26) = true)
    {f27 : Addr} {od27 an27 : Option Addr} {sl27 : Array (Option Value)} {oc27 kV27 dc27 pm27 cd27 ct27 : Value}
    (a27 : PySem.W.nsIn K mainGlobals "_law_draw" = some (some (.ref f27))) (l27 : K.lookup f27 = some ⟨oc27, od27, .func (PySem.W.fnOf "_law_draw" "_law_draw" (defArgs sDraw) (defBody sDraw) (defScope sDraw) .none kV27 dc27 pm27 an27 cd27 ct27), sl27⟩) (c27 : PySem.W.codeIn K cd27 "_law_draw" = true) (k27 : PySem.W.keepIn K (.ref f27) = true)
    {f28 : Addr} {od28 an28 : Option Addr} {sl28 : Array (Option Value)} {oc28 kV28 dc28 pm28 cd28 ct28 : Value}
    (a28 : PySem.W.nsIn K mainGlobals "_law_shape" = some (some (.ref f28))) (l28 : K.lookup f28 = some ⟨oc28, od28, .func (PySem.W.fnOf "_law_shape" "_law_shape" (defArgs sShape) (defBody sShape) (defScope sShape) .none kV28 dc28 pm28 an28 cd28 ct28), sl28⟩) (c28 : PySem.W.codeIn K cd28 "_law_shape" = true) (k28 : PySem.W.keepIn K (.ref f28) = true)
    {f29 : Addr} {od29 an29 : Option Addr} {sl29 : Array (Option Value)} {oc29 kV29 dc29 pm29 cd29 ct29 : Value}
    (a29 : PySem.W.nsIn K mainGlobals "_law_chunks" = some (some (.ref f29))) (l29 : K.lookup f29 = some ⟨oc29, od29, .func (PySem.W.fnOf "_law_chunks" "_law_chunks" (defArgs sLChunks) (defBody sLChunks) (defScope sLChunks) .none kV29 dc29 pm29 an29 cd29 ct29), sl29⟩) (c29 : PySem.W.codeIn K cd29 "_law_chunks" = true) (k29 : PySem.W.keepIn K (.ref f29) = true)
    {f30 : Addr} {od30 an30 : Option Addr} {sl30 : Array (Option Value)} {oc30 kV30 dc30 pm30 cd30 ct30 : Value}
    (a30 : PySem.W.nsIn K mainGlobals "_law_arrays" = some (some (.ref f30))) (l30 : K.lookup f30 = some ⟨oc30, od30, .func (PySem.W.fnOf "_law_arrays" "_law_arrays" (defArgs sLArrays) (defBody sLArrays) (defScope sLArrays) .none kV30 dc30 pm30 an30 cd30 ct30), sl30⟩) (c30 : PySem.W.codeIn K cd30 "_law_arrays" = true) (k30 : PySem.W.keepIn K (.ref f30) = true)
    {f31 : Addr} {od31 an31 : Option Addr} {sl31 : Array (Option Value)} {oc31 kV31 dc31 pm31 cd31 ct31 : Value}
    (a31 : PySem.W.nsIn K mainGlobals "_law_same" = some (some (.ref f31))) (l31 : K.lookup f31 = some ⟨oc31, od31, .func (PySem.W.fnOf "_law_same" "_law_same" (defArgs sLSame) (defBody sLSame) (defScope sLSame) .none kV31 dc31 pm31 an31 cd31 ct31), sl31⟩) (c31 : PySem.W.codeIn K cd31 "_law_same" = true) (k31 : PySem.W.keepIn K (.ref f31) = true)
    {f32 : Addr} {od32 an32 : Option Addr} {sl32 : Array (Option Value)} {oc32 kV32 dc32 pm32 cd32 ct32 : Value}
    (a32 : PySem.W.nsIn K mainGlobals "_law_refused" = some (some (.ref f32))) (l32 : K.lookup f32 = some ⟨oc32, od32, .func (PySem.W.fnOf "_law_refused" "_law_refused" (defArgs sLRefused) (defBody sLRefused) (defScope sLRefused) .none kV32 dc32 pm32 an32 cd32 ct32), sl32⟩) (c32 : PySem.W.codeIn K cd32 "_law_refused" = true) (k32 : PySem.W.keepIn K (.ref f32) = true)
    {f33 : Addr} {od33 an33 : Option Addr} {sl33 : Array (Option Value)} {oc33 kV33 dc33 pm33 cd33 ct33 : Value}
    (a33 : PySem.W.nsIn K mainGlobals "law" = some (some (.ref f33))) (l33 : K.lookup f33 = some ⟨oc33, od33, .func (PySem.W.fnOf "law" "law" (defArgs sLaw) (defBody sLaw) (defScope sLaw) .none kV33 dc33 pm33 an33 cd33 ct33), sl33⟩) (c33 : PySem.W.codeIn K cd33 "law" = true) (k33 : PySem.W.keepIn K (.ref f33) = true)
    (z1 : PySem.W.nsIn K mainGlobals "range" = some none)
    (z2 : PySem.W.nsIn K mainGlobals "int" = some none)
    (z3 : PySem.W.nsIn K mainGlobals "len" = some none)
    (z4 : PySem.W.nsIn K mainGlobals "isinstance" = some none)
    (z5 : PySem.W.nsIn K mainGlobals "bool" = some none)
    (z6 : PySem.W.nsIn K mainGlobals "str" = some none)
    (z7 : PySem.W.nsIn K mainGlobals "min" = some none)
    (z8 : PySem.W.nsIn K mainGlobals "max" = some none)
    (z9 : PySem.W.nsIn K mainGlobals "sum" = some none)
    (z10 : PySem.W.nsIn K mainGlobals "abs" = some none)
    (z11 : PySem.W.nsIn K mainGlobals "enumerate" = some none)
    (z12 : PySem.W.nsIn K mainGlobals "tuple" = some none)
    (z13 : PySem.W.nsIn K mainGlobals "list" = some none)
    (z14 : PySem.W.nsIn K mainGlobals "sorted" = some none)
    (z15 : PySem.W.nsIn K mainGlobals "zip" = some none)
    (z16 : PySem.W.nsIn K mainGlobals "reversed" = some none)
    (z17 : PySem.W.nsIn K mainGlobals "dict" = some none)
    (z18 : PySem.W.nsIn K mainGlobals "ValueError" = some none)
    (z19 : PySem.W.nsIn K mainGlobals "all" = some none)
    (z20 : PySem.W.nsIn K mainGlobals "ord" = some none)
    {t1 : Tok} (g1 : PySem.W.nsIn K mainGlobals "SUM_MODULUS" = some (some (.int 65521 t1)))
    {t2 : Tok} (g2 : PySem.W.nsIn K mainGlobals "LIFT" = some (some (.int 2147483648 t2)))
    {t3 : Tok} (g3 : PySem.W.nsIn K mainGlobals "GREATEST_NUMBER" = some (some (.int 4294967295 t3)))
    {t4 : Tok} (g4 : PySem.W.nsIn K mainGlobals "LINE_FEED" = some (some (.int 10 t4)))
    {t5 : Tok} (g5 : PySem.W.nsIn K mainGlobals "SPACE" = some (some (.int 32 t5)))
    {t6 : Tok} (g6 : PySem.W.nsIn K mainGlobals "PERCENT_SIGN" = some (some (.int 37 t6)))
    {t7 : Tok} (g7 : PySem.W.nsIn K mainGlobals "TILDE" = some (some (.int 126 t7)))
    {t8 : Tok} (g8 : PySem.W.nsIn K mainGlobals "CHARACTERS" = some (some (.str CHS2 t8)))
    {t9 : Tok} (g9 : PySem.W.nsIn K mainGlobals "NAME_CHARACTERS" = some (some (.str NCH t9)))
    {t10 : Tok} (g10 : PySem.W.nsIn K mainGlobals "DIGITS" = some (some (.str DIG t10)))
    {t11 : Tok} (g11 : PySem.W.nsIn K mainGlobals "LONGEST_NAME" = some (some (.int 30 t11)))
    {t12 : Tok} (g12 : PySem.W.nsIn K mainGlobals "MOST_DIMS" = some (some (.int 6 t12)))
    {t13 : Tok} (g13 : PySem.W.nsIn K mainGlobals "MOST_ATTRS" = some (some (.int 16 t13)))
    {t14 : Tok} (g14 : PySem.W.nsIn K mainGlobals "FURTHEST" = some (some (.int 1000000 t14)))
    {t15 : Tok} (g15 : PySem.W.nsIn K mainGlobals "LONGEST_STEP" = some (some (.int 1000000 t15)))
    {t16 : Tok} (g16 : PySem.W.nsIn K mainGlobals "DATA_PREFIX" = some (some (.str "data." t16)))
    {t17 : Tok} (g17 : PySem.W.nsIn K mainGlobals "ROOT_FILE" = some (some (.str "root" t17)))
    {t18 : Tok} (g18 : PySem.W.nsIn K mainGlobals "NEW_ROOT_FILE" = some (some (.str "root.new" t18)))
    {t19 : Tok} (g19 : PySem.W.nsIn K mainGlobals "SUM_LENGTH" = some (some (.int 4 t19)))
    {kK kF : Addr} {K0 K1 K2' F0 F1 : Tok} {nK nF : Nat} {ddF : Option Addr} {slK slF : Array (Option Value)} {O : Addr} {fOI : Addr} {odOI anOI : Option Addr} {slOI : Array (Option Value)} {ocOI kVOI dcOI pmOI cdOI ctOI : Value} {S : Addr} {fSI : Addr} {odSI anSI : Option Addr} {slSI : Array (Option Value)} {ocSI kVSI dcSI pmSI cdSI ctSI : Value} {R : Addr} {fRI : Addr} {odRI anRI : Option Addr} {slRI : Array (Option Value)} {ocRI kVRI dcRI pmRI cdRI ctRI : Value} {Cc : Addr} {fCcI : Addr} {odCcI anCcI : Option Addr} {slCcI : Array (Option Value)} {ocCcI kVCcI dcCcI pmCcI cdCcI ctCcI : Value} {Ch : Addr} {fChI : Addr} {odChI anChI : Option Addr} {slChI : Array (Option Value)} {ocChI kVChI dcChI pmChI cdChI ctChI : Value} {Dk : Addr} {fDkI : Addr} {odDkI anDkI : Option Addr} {slDkI : Array (Option Value)} {ocDkI kVDkI dcDkI pmDkI cdDkI ctDkI : Value} {St : Addr} {fStI : Addr} {odStI anStI : Option Addr} {slStI : Array (Option Value)} {ocStI kVStI dcStI pmStI cdStI ctStI : Value} {fE : Addr} {odE anE : Option Addr} {slE : Array (Option Value)} {ocE kVE dcE pmE cdE ctE : Value} {CM : Addr} {C1 : Addr} {nm1 q1 : Str} {Nn1 : Addr} {bs1 : List Value} {sn1 : List Str} {sub1 : List Value} {ab1 : Bool} {col1 : Option Bool} {dd1 : Option Addr} {ma1 mb1 mc1 md1 : Option Value} {tn1 : Tok} {C2 : Addr} {nm2 q2 : Str} {Nn2 : Addr} {bs2 : List Value} {sn2 : List Str} {sub2 : List Value} {ab2 : Bool} {col2 : Option Bool} {dd2 : Option Addr} {ma2 mb2 mc2 md2 : Option Value} {tn2 : Tok} {fOe : Addr} {odOe anOe : Option Addr} {slOe : Array (Option Value)} {ocOe kVOe dcOe pmOe cdOe ctOe : Value} {fOn : Addr} {odOn anOn : Option Addr} {slOn : Array (Option Value)} {ocOn kVOn dcOn pmOn cdOn ctOn : Value} {fOo : Addr} {odOo anOo : Option Addr} {slOo : Array (Option Value)} {ocOo kVOo dcOo pmOo cdOo ctOo : Value} {fO4 : Addr} {odO4 anO4 : Option Addr} {slO4 : Array (Option Value)} {ocO4 kVO4 dcO4 pmO4 cdO4 ctO4 : Value} {fOi : Addr} {odOi anOi : Option Addr} {slOi : Array (Option Value)} {ocOi kVOi dcOi pmOi cdOi ctOi : Value} {fSE : Addr} {odSE anSE : Option Addr} {slSE : Array (Option Value)} {ocSE kVSE dcSE pmSE cdSE ctSE : Value} {fNb : Addr} {odNb anNb : Option Addr} {slNb : Array (Option Value)} {ocNb kVNb dcNb pmNb cdNb ctNb : Value} {fDn : Addr} {odDn anDn : Option Addr} {slDn : Array (Option Value)} {ocDn kVDn dcDn pmDn cdDn ctDn : Value} {fDs : Addr} {odDs anDs : Option Addr} {slDs : Array (Option Value)} {ocDs kVDs dcDs pmDs cdDs ctDs : Value} {fDr : Addr} {odDr anDr : Option Addr} {slDr : Array (Option Value)} {ocDr kVDr dcDr pmDr cdDr ctDr : Value} {fDa : Addr} {odDa anDa : Option Addr} {slDa : Array (Option Value)} {ocDa kVDa dcDa pmDa cdDa ctDa : Value} {fDy : Addr} {odDy anDy : Option Addr} {slDy : Array (Option Value)} {ocDy kVDy dcDy pmDy cdDy ctDy : Value} {fDe : Addr} {odDe anDe : Option Addr} {slDe : Array (Option Value)} {ocDe kVDe dcDe pmDe cdDe ctDe : Value} {fDz : Addr} {odDz anDz : Option Addr} {slDz : Array (Option Value)} {ocDz kVDz dcDz pmDz cdDz ctDz : Value} {fDo : Addr} {odDo anDo : Option Addr} {slDo : Array (Option Value)} {ocDo kVDo dcDo pmDo cdDo ctDo : Value} {fDb : Addr} {odDb anDb : Option Addr} {slDb : Array (Option Value)} {ocDb kVDb dcDb pmDb cdDb ctDb : Value} {fDc : Addr} {odDc anDc : Option Addr} {slDc : Array (Option Value)} {ocDc kVDc dcDc pmDc cdDc ctDc : Value} {fDh : Addr} {odDh anDh : Option Addr} {slDh : Array (Option Value)} {ocDh kVDh dcDh pmDh cdDh ctDh : Value} {fSr : Addr} {odSr anSr : Option Addr} {slSr : Array (Option Value)} {ocSr kVSr dcSr pmSr cdSr ctSr : Value} {fSd : Addr} {odSd anSd : Option Addr} {slSd : Array (Option Value)} {ocSd kVSd dcSd pmSd cdSd ctSd : Value} {fSz : Addr} {odSz anSz : Option Addr} {slSz : Array (Option Value)} {ocSz kVSz dcSz pmSz cdSz ctSz : Value} {fSo : Addr} {odSo anSo : Option Addr} {slSo : Array (Option Value)} {ocSo kVSo dcSo pmSo cdSo ctSo : Value} {fSu : Addr} {odSu anSu : Option Addr} {slSu : Array (Option Value)} {ocSu kVSu dcSu pmSu cdSu ctSu : Value} {fSa : Addr} {odSa anSa : Option Addr} {slSa : Array (Option Value)} {ocSa kVSa dcSa pmSa cdSa ctSa : Value} {fSv : Addr} {odSv anSv : Option Addr} {slSv : Array (Option Value)} {ocSv kVSv dcSv pmSv cdSv ctSv : Value} {fSl : Addr} {odSl anSl : Option Addr} {slSl : Array (Option Value)} {ocSl kVSl dcSl pmSl cdSl ctSl : Value} {fSy : Addr} {odSy anSy : Option Addr} {slSy : Array (Option Value)} {ocSy kVSy dcSy pmSy cdSy ctSy : Value} {fSh : Addr} {odSh anSh : Option Addr} {slSh : Array (Option Value)} {ocSh kVSh dcSh pmSh cdSh ctSh : Value} {fSk : Addr} {odSk anSk : Option Addr} {slSk : Array (Option Value)} {ocSk kVSk dcSk pmSk cdSk ctSk : Value} {fSc : Addr} {odSc anSc : Option Addr} {slSc : Array (Option Value)} {ocSc kVSc dcSc pmSc cdSc ctSc : Value} {fSp : Addr} {odSp anSp : Option Addr} {slSp : Array (Option Value)} {ocSp kVSp dcSp pmSp cdSp ctSp : Value} {fSg : Addr} {odSg anSg : Option Addr} {slSg : Array (Option Value)} {ocSg kVSg dcSg pmSg cdSg ctSg : Value} {fSx : Addr} {odSx anSx : Option Addr} {slSx : Array (Option Value)} {ocSx kVSx dcSx pmSx cdSx ctSx : Value} {fSw : Addr} {odSw anSw : Option Addr} {slSw : Array (Option Value)} {ocSw kVSw dcSw pmSw cdSw ctSw : Value} {fSq : Addr} {odSq anSq : Option Addr} {slSq : Array (Option Value)} {ocSq kVSq dcSq pmSq cdSq ctSq : Value}
    (eKK : PySem.W.nsIn K mainGlobals "KINDS" = some (some (.ref kK)))
    (lKK : K.lookup kK = some ⟨.type "tuple", none, .seq #[.str "int" K0, .str "flag" K1, .str "text" K2'] nK, slK⟩)
    (eFF : PySem.W.nsIn K mainGlobals "FIRST_OCTETS" = some (some (.ref kF)))
    (lFF : K.lookup kF = some ⟨.type "tuple", ddF, .seq #[.int 77 F0, .int 83 F1] nF, slF⟩)
    (xOe : PySem.W.nsIn K mainGlobals "OctetReader" = some (some (.ref O)))
    (xO1 : PySem.W.makesIn K O = true)
    (xO2 : PySem.W.findIn K (.ref O) "__init__" = some (some (.ref fOI)))
    (xO3 : PySem.W.isFn K (.ref fOI) = true)
    (xO4 : PySem.W.keepIn K (.ref O) = true)
    (xO5 : PySem.W.plainGet K O Str.empty = true)
    (xO6 : PySem.W.hasDictIn K O = true)
    (xO7 : PySem.W.plainOver K O = true)
    (xO8 : PySem.W.findIn K (.ref O) "__setattr__" = some (some (.builtin "object.__setattr__")))
    (xOn0 : PySem.W.findIn K (.ref O) "octets" = some none)
    (xOn1 : PySem.W.findIn K (.ref O) "at" = some none)
    (lOI : K.lookup fOI = some ⟨ocOI, odOI, .func (PySem.W.fnOf "__init__" "OctetReader.__init__" (defArgs sOctetReaderInit) (defBody sOctetReaderInit) (defScope sOctetReaderInit) .none kVOI dcOI pmOI anOI cdOI ctOI), slOI⟩)
    (cOI : PySem.W.codeIn K cdOI "OctetReader.__init__" = true)
    (kOI : PySem.W.keepIn K (.ref fOI) = true)
    (xSe : PySem.W.nsIn K mainGlobals "Shape" = some (some (.ref S)))
    (xS1 : PySem.W.makesIn K S = true)
    (xS2 : PySem.W.findIn K (.ref S) "__init__" = some (some (.ref fSI)))
    (xS3 : PySem.W.isFn K (.ref fSI) = true)
    (xS4 : PySem.W.keepIn K (.ref S) = true)
    (xS5 : PySem.W.plainGet K S Str.empty = true)
    (xS6 : PySem.W.hasDictIn K S = true)
    (xS7 : PySem.W.plainOver K S = true)
    (xS8 : PySem.W.findIn K (.ref S) "__setattr__" = some (some (.builtin "object.__setattr__")))
    (xSn0 : PySem.W.findIn K (.ref S) "dims" = some none)
    (xSn1 : PySem.W.findIn K (.ref S) "attrs" = some none)
    (lSI : K.lookup fSI = some ⟨ocSI, odSI, .func (PySem.W.fnOf "__init__" "Shape.__init__" (defArgs sShInit) (defBody sShInit) (defScope sShInit) .none kVSI dcSI pmSI anSI cdSI ctSI), slSI⟩)
    (cSI : PySem.W.codeIn K cdSI "Shape.__init__" = true)
    (kSI : PySem.W.keepIn K (.ref fSI) = true)
    (xRe : PySem.W.nsIn K mainGlobals "Root" = some (some (.ref R)))
    (xR1 : PySem.W.makesIn K R = true)
    (xR2 : PySem.W.findIn K (.ref R) "__init__" = some (some (.ref fRI)))
    (xR3 : PySem.W.isFn K (.ref fRI) = true)
    (xR4 : PySem.W.keepIn K (.ref R) = true)
    (xR5 : PySem.W.plainGet K R Str.empty = true)
    (xR6 : PySem.W.hasDictIn K R = true)
    (xR7 : PySem.W.plainOver K R = true)
    (xR8 : PySem.W.findIn K (.ref R) "__setattr__" = some (some (.builtin "object.__setattr__")))
    (xRn0 : PySem.W.findIn K (.ref R) "upcoming" = some none)
    (xRn1 : PySem.W.findIn K (.ref R) "data" = some none)
    (xRn2 : PySem.W.findIn K (.ref R) "versions" = some none)
    (lRI : K.lookup fRI = some ⟨ocRI, odRI, .func (PySem.W.fnOf "__init__" "Root.__init__" (defArgs sRootInit) (defBody sRootInit) (defScope sRootInit) .none kVRI dcRI pmRI anRI cdRI ctRI), slRI⟩)
    (cRI : PySem.W.codeIn K cdRI "Root.__init__" = true)
    (kRI : PySem.W.keepIn K (.ref fRI) = true)
    (xCce : PySem.W.nsIn K mainGlobals "Content" = some (some (.ref Cc)))
    (xCc1 : PySem.W.makesIn K Cc = true)
    (xCc2 : PySem.W.findIn K (.ref Cc) "__init__" = some (some (.ref fCcI)))
    (xCc3 : PySem.W.isFn K (.ref fCcI) = true)
    (xCc4 : PySem.W.keepIn K (.ref Cc) = true)
    (xCc5 : PySem.W.plainGet K Cc Str.empty = true)
    (xCc6 : PySem.W.hasDictIn K Cc = true)
    (xCc7 : PySem.W.plainOver K Cc = true)
    (xCc8 : PySem.W.findIn K (.ref Cc) "__setattr__" = some (some (.builtin "object.__setattr__")))
    (xCcn0 : PySem.W.findIn K (.ref Cc) "octets" = some none)
    (xCcn1 : PySem.W.findIn K (.ref Cc) "sure" = some none)
    (lCcI : K.lookup fCcI = some ⟨ocCcI, odCcI, .func (PySem.W.fnOf "__init__" "Content.__init__" (defArgs sContentInit) (defBody sContentInit) (defScope sContentInit) .none kVCcI dcCcI pmCcI anCcI cdCcI ctCcI), slCcI⟩)
    (cCcI : PySem.W.codeIn K cdCcI "Content.__init__" = true)
    (kCcI : PySem.W.keepIn K (.ref fCcI) = true)
    (xChe : PySem.W.nsIn K mainGlobals "Choices" = some (some (.ref Ch)))
    (xCh1 : PySem.W.makesIn K Ch = true)
    (xCh2 : PySem.W.findIn K (.ref Ch) "__init__" = some (some (.ref fChI)))
    (xCh3 : PySem.W.isFn K (.ref fChI) = true)
    (xCh4 : PySem.W.keepIn K (.ref Ch) = true)
    (xCh5 : PySem.W.plainGet K Ch Str.empty = true)
    (xCh6 : PySem.W.hasDictIn K Ch = true)
    (xCh7 : PySem.W.plainOver K Ch = true)
    (xCh8 : PySem.W.findIn K (.ref Ch) "__setattr__" = some (some (.builtin "object.__setattr__")))
    (xChn0 : PySem.W.findIn K (.ref Ch) "rest" = some none)
    (lChI : K.lookup fChI = some ⟨ocChI, odChI, .func (PySem.W.fnOf "__init__" "Choices.__init__" (defArgs sChoicesInit) (defBody sChoicesInit) (defScope sChoicesInit) .none kVChI dcChI pmChI anChI cdChI ctChI), slChI⟩)
    (cChI : PySem.W.codeIn K cdChI "Choices.__init__" = true)
    (kChI : PySem.W.keepIn K (.ref fChI) = true)
    (xDke : PySem.W.nsIn K mainGlobals "Disk" = some (some (.ref Dk)))
    (xDk1 : PySem.W.makesIn K Dk = true)
    (xDk2 : PySem.W.findIn K (.ref Dk) "__init__" = some (some (.ref fDkI)))
    (xDk3 : PySem.W.isFn K (.ref fDkI) = true)
    (xDk4 : PySem.W.keepIn K (.ref Dk) = true)
    (xDk5 : PySem.W.plainGet K Dk Str.empty = true)
    (xDk6 : PySem.W.hasDictIn K Dk = true)
    (xDk7 : PySem.W.plainOver K Dk = true)
    (xDk8 : PySem.W.findIn K (.ref Dk) "__setattr__" = some (some (.builtin "object.__setattr__")))
    (xDkn0 : PySem.W.findIn K (.ref Dk) "_contents" = some none)
    (xDkn1 : PySem.W.findIn K (.ref Dk) "_sure_contents" = some none)
    (xDkn2 : PySem.W.findIn K (.ref Dk) "_changes" = some none)
    (xDkn3 : PySem.W.findIn K (.ref Dk) "_allowed" = some none)
    (xDkn4 : PySem.W.findIn K (.ref Dk) "_done" = some none)
    (lDkI : K.lookup fDkI = some ⟨ocDkI, odDkI, .func (PySem.W.fnOf "__init__" "Disk.__init__" (defArgs sDiskInit) (defBody sDiskInit) (defScope sDiskInit) .none kVDkI dcDkI pmDkI anDkI cdDkI ctDkI), slDkI⟩)
    (cDkI : PySem.W.codeIn K cdDkI "Disk.__init__" = true)
    (kDkI : PySem.W.keepIn K (.ref fDkI) = true)
    (xSte : PySem.W.nsIn K mainGlobals "Store" = some (some (.ref St)))
    (xSt1 : PySem.W.makesIn K St = true)
    (xSt2 : PySem.W.findIn K (.ref St) "__init__" = some (some (.ref fStI)))
    (xSt3 : PySem.W.isFn K (.ref fStI) = true)
    (xSt4 : PySem.W.keepIn K (.ref St) = true)
    (xSt5 : PySem.W.plainGet K St Str.empty = true)
    (xSt6 : PySem.W.hasDictIn K St = true)
    (xSt7 : PySem.W.plainOver K St = true)
    (xSt8 : PySem.W.findIn K (.ref St) "__setattr__" = some (some (.builtin "object.__setattr__")))
    (xStn0 : PySem.W.findIn K (.ref St) "disk" = some none)
    (xStn1 : PySem.W.findIn K (.ref St) "_root" = some none)
    (xStn2 : PySem.W.findIn K (.ref St) "_versions" = some none)
    (lStI : K.lookup fStI = some ⟨ocStI, odStI, .func (PySem.W.fnOf "__init__" "Store.__init__" (defArgs sStoreInit) (defBody sStoreInit) (defScope sStoreInit) .none kVStI dcStI pmStI anStI cdStI ctStI), slStI⟩)
    (cStI : PySem.W.codeIn K cdStI "Store.__init__" = true)
    (kStI : PySem.W.keepIn K (.ref fStI) = true)
    (hn : PySem.W.specialIn K (.builtin "object.__class__") "__get__" = some (some (.builtin "getset_descriptor.__get__")))
    (ht : PySem.W.takesIn K (.builtin "object.__class__") = some true)
    (eM : PySem.W.nsIn K mainGlobals "ManysidesError" = some (some (.ref CM)))
    (eC1 : PySem.W.nsIn K mainGlobals "PowerLost" = some (some (.ref C1)))
    (xL1 : K.lookup C1 = some (excClassObj nm1 q1 C1 Nn1 bs1 [.ref CM, .type "ValueError", .type "Exception", .type "BaseException", .type "object"] true sn1 sub1 ab1 col1 dd1 ma1 mb1 (some (.str "PowerLost" tn1)) mc1 md1 "ValueError.__new__"))
    (sa1 : PySem.W.findIn K (.ref C1) "__setattr__" = some (some (.builtin "object.__setattr__")))
    (ga1 : PySem.W.findIn K (.ref C1) "__getattribute__" = some (some (.builtin "BaseException.__getattribute__")))
    (gg1 : PySem.W.findIn K (.ref C1) "__getattr__" = some none)
    (hs1 : PySem.W.subIn K (.ref C1) (.type "BaseException") = some true)
    (hd1 : PySem.W.hasDictIn K C1 = true)
    (ha1 : PySem.W.findIn K (.ref C1) "__class__" = some (some (.builtin "object.__class__")))
    (hm1 : PySem.W.mroIn K C1 (.type "object") = some true)
    (tyC1 : PySem.W.typeIn K (.ref C1) = some (.type "type"))
    (kC1 : PySem.W.keepIn K (.ref C1) = true)
    (rd1 : PySem.W.readsIn K C1 (.type "type") = true)
    (fc1 : PySem.W.findCls K (.ref C1) (.type "type") "__name__" = some (.get (.builtin "getset_descriptor.__get__") (.builtin "type.__name__") (.ref C1) (.type "type")))
    (noP1 : PySem.W.findIn K (.ref C1) "place" = some none)
    (noN1 : PySem.W.findIn K (.ref C1) "name" = some none)
    (iC1 : PySem.W.findIn K (.ref C1) "__init__" = some (some (.ref fE)))
    (sCC1 : PySem.W.subIn K (.ref C1) (.ref C1) = some true)
    (eC2 : PySem.W.nsIn K mainGlobals "InvalidVersion" = some (some (.ref C2)))
    (xL2 : K.lookup C2 = some (excClassObj nm2 q2 C2 Nn2 bs2 [.ref CM, .type "ValueError", .type "Exception", .type "BaseException", .type "object"] true sn2 sub2 ab2 col2 dd2 ma2 mb2 (some (.str "InvalidVersion" tn2)) mc2 md2 "ValueError.__new__"))
    (sa2 : PySem.W.findIn K (.ref C2) "__setattr__" = some (some (.builtin "object.__setattr__")))
    (ga2 : PySem.W.findIn K (.ref C2) "__getattribute__" = some (some (.builtin "BaseException.__getattribute__")))
    (gg2 : PySem.W.findIn K (.ref C2) "__getattr__" = some none)
    (hs2 : PySem.W.subIn K (.ref C2) (.type "BaseException") = some true)
    (hd2 : PySem.W.hasDictIn K C2 = true)
    (ha2 : PySem.W.findIn K (.ref C2) "__class__" = some (some (.builtin "object.__class__")))
    (hm2 : PySem.W.mroIn K C2 (.type "object") = some true)
    (tyC2 : PySem.W.typeIn K (.ref C2) = some (.type "type"))
    (kC2 : PySem.W.keepIn K (.ref C2) = true)
    (rd2 : PySem.W.readsIn K C2 (.type "type") = true)
    (fc2 : PySem.W.findCls K (.ref C2) (.type "type") "__name__" = some (.get (.builtin "getset_descriptor.__get__") (.builtin "type.__name__") (.ref C2) (.type "type")))
    (noP2 : PySem.W.findIn K (.ref C2) "place" = some none)
    (noN2 : PySem.W.findIn K (.ref C2) "name" = some none)
    (iC2 : PySem.W.findIn K (.ref C2) "__init__" = some (some (.ref fE)))
    (sCC2 : PySem.W.subIn K (.ref C2) (.ref C2) = some true)
    (mOe : PySem.W.findIn K (.ref O) "is_at_end" = some (some (.ref fOe)))
    (hOe : PySem.W.isFn K (.ref fOe) = true)
    (lOe : K.lookup fOe = some ⟨ocOe, odOe, .func (PySem.W.fnOf "is_at_end" "OctetReader.is_at_end" (defArgs sOctetReaderIsAtEnd) (defBody sOctetReaderIsAtEnd) (defScope sOctetReaderIsAtEnd) .none kVOe dcOe pmOe anOe cdOe ctOe), slOe⟩)
    (cOe : PySem.W.codeIn K cdOe "OctetReader.is_at_end" = true)
    (kOe : PySem.W.keepIn K (.ref fOe) = true)
    (mOn : PySem.W.findIn K (.ref O) "next_octets" = some (some (.ref fOn)))
    (hOn : PySem.W.isFn K (.ref fOn) = true)
    (lOn : K.lookup fOn = some ⟨ocOn, odOn, .func (PySem.W.fnOf "next_octets" "OctetReader.next_octets" (defArgs sOctetReaderNextOctets) (defBody sOctetReaderNextOctets) (defScope sOctetReaderNextOctets) .none kVOn dcOn pmOn anOn cdOn ctOn), slOn⟩)
    (cOn : PySem.W.codeIn K cdOn "OctetReader.next_octets" = true)
    (kOn : PySem.W.keepIn K (.ref fOn) = true)
    (mOo : PySem.W.findIn K (.ref O) "next_octet_of" = some (some (.ref fOo)))
    (hOo : PySem.W.isFn K (.ref fOo) = true)
    (lOo : K.lookup fOo = some ⟨ocOo, odOo, .func (PySem.W.fnOf "next_octet_of" "OctetReader.next_octet_of" (defArgs sOctetReaderNextOctetOf) (defBody sOctetReaderNextOctetOf) (defScope sOctetReaderNextOctetOf) .none kVOo dcOo pmOo anOo cdOo ctOo), slOo⟩)
    (cOo : PySem.W.codeIn K cdOo "OctetReader.next_octet_of" = true)
    (kOo : PySem.W.keepIn K (.ref fOo) = true)
    (mO4 : PySem.W.findIn K (.ref O) "next_four" = some (some (.ref fO4)))
    (hO4 : PySem.W.isFn K (.ref fO4) = true)
    (lO4 : K.lookup fO4 = some ⟨ocO4, odO4, .func (PySem.W.fnOf "next_four" "OctetReader.next_four" (defArgs sOctetReaderNextFour) (defBody sOctetReaderNextFour) (defScope sOctetReaderNextFour) .none kVO4 dcO4 pmO4 anO4 cdO4 ctO4), slO4⟩)
    (cO4 : PySem.W.codeIn K cdO4 "OctetReader.next_four" = true)
    (kO4 : PySem.W.keepIn K (.ref fO4) = true)
    (mOi : PySem.W.findIn K (.ref O) "next_four_in" = some (some (.ref fOi)))
    (hOi : PySem.W.isFn K (.ref fOi) = true)
    (lOi : K.lookup fOi = some ⟨ocOi, odOi, .func (PySem.W.fnOf "next_four_in" "OctetReader.next_four_in" (defArgs sOctetReaderNextFourIn) (defBody sOctetReaderNextFourIn) (defScope sOctetReaderNextFourIn) .none kVOi dcOi pmOi anOi cdOi ctOi), slOi⟩)
    (cOi : PySem.W.codeIn K cdOi "OctetReader.next_four_in" = true)
    (kOi : PySem.W.keepIn K (.ref fOi) = true)
    (mSE : PySem.W.findIn K (.ref S) "__eq__" = some (some (.ref fSE)))
    (hSE : PySem.W.isFn K (.ref fSE) = true)
    (lSE : K.lookup fSE = some ⟨ocSE, odSE, .func (PySem.W.fnOf "__eq__" "Shape.__eq__" (defArgs sShEq) (defBody sShEq) (defScope sShEq) .none kVSE dcSE pmSE anSE cdSE ctSE), slSE⟩)
    (cSE : PySem.W.codeIn K cdSE "Shape.__eq__" = true)
    (kSE : PySem.W.keepIn K (.ref fSE) = true)
    (mNb : PySem.W.findIn K (.ref Ch) "next_below" = some (some (.ref fNb)))
    (hNb : PySem.W.isFn K (.ref fNb) = true)
    (lNb : K.lookup fNb = some ⟨ocNb, odNb, .func (PySem.W.fnOf "next_below" "Choices.next_below" (defArgs sChoicesNextBelow) (defBody sChoicesNextBelow) (defScope sChoicesNextBelow) .none kVNb dcNb pmNb anNb cdNb ctNb), slNb⟩)
    (cNb : PySem.W.codeIn K cdNb "Choices.next_below" = true)
    (kNb : PySem.W.keepIn K (.ref fNb) = true)
    (mDn : PySem.W.findIn K (.ref Dk) "names" = some (some (.ref fDn)))
    (hDn : PySem.W.isFn K (.ref fDn) = true)
    (lDn : K.lookup fDn = some ⟨ocDn, odDn, .func (PySem.W.fnOf "names" "Disk.names" (defArgs sDiskNames) (defBody sDiskNames) (defScope sDiskNames) .none kVDn dcDn pmDn anDn cdDn ctDn), slDn⟩)
    (cDn : PySem.W.codeIn K cdDn "Disk.names" = true)
    (kDn : PySem.W.keepIn K (.ref fDn) = true)
    (mDs : PySem.W.findIn K (.ref Dk) "size" = some (some (.ref fDs)))
    (hDs : PySem.W.isFn K (.ref fDs) = true)
    (lDs : K.lookup fDs = some ⟨ocDs, odDs, .func (PySem.W.fnOf "size" "Disk.size" (defArgs sDiskSize) (defBody sDiskSize) (defScope sDiskSize) .none kVDs dcDs pmDs anDs cdDs ctDs), slDs⟩)
    (cDs : PySem.W.codeIn K cdDs "Disk.size" = true)
    (kDs : PySem.W.keepIn K (.ref fDs) = true)
    (mDr : PySem.W.findIn K (.ref Dk) "read" = some (some (.ref fDr)))
    (hDr : PySem.W.isFn K (.ref fDr) = true)
    (lDr : K.lookup fDr = some ⟨ocDr, odDr, .func (PySem.W.fnOf "read" "Disk.read" (defArgs sDiskRead) (defBody sDiskRead) (defScope sDiskRead) .none kVDr dcDr pmDr anDr cdDr ctDr), slDr⟩)
    (cDr : PySem.W.codeIn K cdDr "Disk.read" = true)
    (kDr : PySem.W.keepIn K (.ref fDr) = true)
    (mDa : PySem.W.findIn K (.ref Dk) "append" = some (some (.ref fDa)))
    (hDa : PySem.W.isFn K (.ref fDa) = true)
    (lDa : K.lookup fDa = some ⟨ocDa, odDa, .func (PySem.W.fnOf "append" "Disk.append" (defArgs sDiskAppend) (defBody sDiskAppend) (defScope sDiskAppend) .none kVDa dcDa pmDa anDa cdDa ctDa), slDa⟩)
    (cDa : PySem.W.codeIn K cdDa "Disk.append" = true)
    (kDa : PySem.W.keepIn K (.ref fDa) = true)
    (mDy : PySem.W.findIn K (.ref Dk) "sync" = some (some (.ref fDy)))
    (hDy : PySem.W.isFn K (.ref fDy) = true)
    (lDy : K.lookup fDy = some ⟨ocDy, odDy, .func (PySem.W.fnOf "sync" "Disk.sync" (defArgs sDiskSync) (defBody sDiskSync) (defScope sDiskSync) .none kVDy dcDy pmDy anDy cdDy ctDy), slDy⟩)
    (cDy : PySem.W.codeIn K cdDy "Disk.sync" = true)
    (kDy : PySem.W.keepIn K (.ref fDy) = true)
    (mDe : PySem.W.findIn K (.ref Dk) "rename" = some (some (.ref fDe)))
    (hDe : PySem.W.isFn K (.ref fDe) = true)
    (lDe : K.lookup fDe = some ⟨ocDe, odDe, .func (PySem.W.fnOf "rename" "Disk.rename" (defArgs sDiskRename) (defBody sDiskRename) (defScope sDiskRename) .none kVDe dcDe pmDe anDe cdDe ctDe), slDe⟩)
    (cDe : PySem.W.codeIn K cdDe "Disk.rename" = true)
    (kDe : PySem.W.keepIn K (.ref fDe) = true)
    (mDz : PySem.W.findIn K (.ref Dk) "sync_names" = some (some (.ref fDz)))
    (hDz : PySem.W.isFn K (.ref fDz) = true)
    (lDz : K.lookup fDz = some ⟨ocDz, odDz, .func (PySem.W.fnOf "sync_names" "Disk.sync_names" (defArgs sDiskSyncNames) (defBody sDiskSyncNames) (defScope sDiskSyncNames) .none kVDz dcDz pmDz anDz cdDz ctDz), slDz⟩)
    (cDz : PySem.W.codeIn K cdDz "Disk.sync_names" = true)
    (kDz : PySem.W.keepIn K (.ref fDz) = true)
    (mDo : PySem.W.findIn K (.ref Dk) "lose" = some (some (.ref fDo)))
    (hDo : PySem.W.isFn K (.ref fDo) = true)
    (lDo : K.lookup fDo = some ⟨ocDo, odDo, .func (PySem.W.fnOf "lose" "Disk.lose" (defArgs sDiskLose) (defBody sDiskLose) (defScope sDiskLose) .none kVDo dcDo pmDo anDo cdDo ctDo), slDo⟩)
    (cDo : PySem.W.codeIn K cdDo "Disk.lose" = true)
    (kDo : PySem.W.keepIn K (.ref fDo) = true)
    (mDb : PySem.W.findIn K (.ref Dk) "_begin_deed" = some (some (.ref fDb)))
    (hDb : PySem.W.isFn K (.ref fDb) = true)
    (lDb : K.lookup fDb = some ⟨ocDb, odDb, .func (PySem.W.fnOf "_begin_deed" "Disk._begin_deed" (defArgs sDiskBeginDeed) (defBody sDiskBeginDeed) (defScope sDiskBeginDeed) .none kVDb dcDb pmDb anDb cdDb ctDb), slDb⟩)
    (cDb : PySem.W.codeIn K cdDb "Disk._begin_deed" = true)
    (kDb : PySem.W.keepIn K (.ref fDb) = true)
    (mDc : PySem.W.findIn K (.ref Dk) "_change" = some (some (.ref fDc)))
    (hDc : PySem.W.isFn K (.ref fDc) = true)
    (lDc : K.lookup fDc = some ⟨ocDc, odDc, .func (PySem.W.fnOf "_change" "Disk._change" (defArgs sDiskChange) (defBody sDiskChange) (defScope sDiskChange) .none kVDc dcDc pmDc anDc cdDc ctDc), slDc⟩)
    (cDc : PySem.W.codeIn K cdDc "Disk._change" = true)
    (kDc : PySem.W.keepIn K (.ref fDc) = true)
    (mDh : PySem.W.findIn K (.ref Dk) "_hold" = some (some (.ref fDh)))
    (hDh : PySem.W.isFn K (.ref fDh) = true)
    (lDh : K.lookup fDh = some ⟨ocDh, odDh, .func (PySem.W.fnOf "_hold" "Disk._hold" (defArgs sDiskHold) (defBody sDiskHold) (defScope sDiskHold) .none kVDh dcDh pmDh anDh cdDh ctDh), slDh⟩)
    (cDh : PySem.W.codeIn K cdDh "Disk._hold" = true)
    (kDh : PySem.W.keepIn K (.ref fDh) = true)
    (mSr : PySem.W.findIn K (.ref St) "root" = some (some (.ref fSr)))
    (hSr : PySem.W.isFn K (.ref fSr) = true)
    (lSr : K.lookup fSr = some ⟨ocSr, odSr, .func (PySem.W.fnOf "root" "Store.root" (defArgs sStoreRoot) (defBody sStoreRoot) (defScope sStoreRoot) .none kVSr dcSr pmSr anSr cdSr ctSr), slSr⟩)
    (cSr : PySem.W.codeIn K cdSr "Store.root" = true)
    (kSr : PySem.W.keepIn K (.ref fSr) = true)
    (mSd : PySem.W.findIn K (.ref St) "data_name" = some (some (.ref fSd)))
    (hSd : PySem.W.isFn K (.ref fSd) = true)
    (lSd : K.lookup fSd = some ⟨ocSd, odSd, .func (PySem.W.fnOf "data_name" "Store.data_name" (defArgs sStoreDataName) (defBody sStoreDataName) (defScope sStoreDataName) .none kVSd dcSd pmSd anSd cdSd ctSd), slSd⟩)
    (cSd : PySem.W.codeIn K cdSd "Store.data_name" = true)
    (kSd : PySem.W.keepIn K (.ref fSd) = true)
    (mSz : PySem.W.findIn K (.ref St) "data_size" = some (some (.ref fSz)))
    (hSz : PySem.W.isFn K (.ref fSz) = true)
    (lSz : K.lookup fSz = some ⟨ocSz, odSz, .func (PySem.W.fnOf "data_size" "Store.data_size" (defArgs sStoreDataSize) (defBody sStoreDataSize) (defScope sStoreDataSize) .none kVSz dcSz pmSz anSz cdSz ctSz), slSz⟩)
    (cSz : PySem.W.codeIn K cdSz "Store.data_size" = true)
    (kSz : PySem.W.keepIn K (.ref fSz) = true)
    (mSo : PySem.W.findIn K (.ref St) "standing_octets" = some (some (.ref fSo)))
    (hSo : PySem.W.isFn K (.ref fSo) = true)
    (lSo : K.lookup fSo = some ⟨ocSo, odSo, .func (PySem.W.fnOf "standing_octets" "Store.standing_octets" (defArgs sStoreStandingOctets) (defBody sStoreStandingOctets) (defScope sStoreStandingOctets) .none kVSo dcSo pmSo anSo cdSo ctSo), slSo⟩)
    (cSo : PySem.W.codeIn K cdSo "Store.standing_octets" = true)
    (kSo : PySem.W.keepIn K (.ref fSo) = true)
    (mSu : PySem.W.findIn K (.ref St) "sound_octets" = some (some (.ref fSu)))
    (hSu : PySem.W.isFn K (.ref fSu) = true)
    (lSu : K.lookup fSu = some ⟨ocSu, odSu, .func (PySem.W.fnOf "sound_octets" "Store.sound_octets" (defArgs sStoreSoundOctets) (defBody sStoreSoundOctets) (defScope sStoreSoundOctets) .none kVSu dcSu pmSu anSu cdSu ctSu), slSu⟩)
    (cSu : PySem.W.codeIn K cdSu "Store.sound_octets" = true)
    (kSu : PySem.W.keepIn K (.ref fSu) = true)
    (mSa : PySem.W.findIn K (.ref St) "_arrays_of" = some (some (.ref fSa)))
    (hSa : PySem.W.isFn K (.ref fSa) = true)
    (lSa : K.lookup fSa = some ⟨ocSa, odSa, .func (PySem.W.fnOf "_arrays_of" "Store._arrays_of" (defArgs sStoreArraysOf) (defBody sStoreArraysOf) (defScope sStoreArraysOf) .none kVSa dcSa pmSa anSa cdSa ctSa), slSa⟩)
    (cSa : PySem.W.codeIn K cdSa "Store._arrays_of" = true)
    (kSa : PySem.W.keepIn K (.ref fSa) = true)
    (mSv : PySem.W.findIn K (.ref St) "versions" = some (some (.ref fSv)))
    (hSv : PySem.W.isFn K (.ref fSv) = true)
    (lSv : K.lookup fSv = some ⟨ocSv, odSv, .func (PySem.W.fnOf "versions" "Store.versions" (defArgs sStoreVersions) (defBody sStoreVersions) (defScope sStoreVersions) .none kVSv dcSv pmSv anSv cdSv ctSv), slSv⟩)
    (cSv : PySem.W.codeIn K cdSv "Store.versions" = true)
    (kSv : PySem.W.keepIn K (.ref fSv) = true)
    (mSl : PySem.W.findIn K (.ref St) "latest" = some (some (.ref fSl)))
    (hSl : PySem.W.isFn K (.ref fSl) = true)
    (lSl : K.lookup fSl = some ⟨ocSl, odSl, .func (PySem.W.fnOf "latest" "Store.latest" (defArgs sStoreLatest) (defBody sStoreLatest) (defScope sStoreLatest) .none kVSl dcSl pmSl anSl cdSl ctSl), slSl⟩)
    (cSl : PySem.W.codeIn K cdSl "Store.latest" = true)
    (kSl : PySem.W.keepIn K (.ref fSl) = true)
    (mSy : PySem.W.findIn K (.ref St) "arrays" = some (some (.ref fSy)))
    (hSy : PySem.W.isFn K (.ref fSy) = true)
    (lSy : K.lookup fSy = some ⟨ocSy, odSy, .func (PySem.W.fnOf "arrays" "Store.arrays" (defArgs sStoreArrays) (defBody sStoreArrays) (defScope sStoreArrays) .none kVSy dcSy pmSy anSy cdSy ctSy), slSy⟩)
    (cSy : PySem.W.codeIn K cdSy "Store.arrays" = true)
    (kSy : PySem.W.keepIn K (.ref fSy) = true)
    (mSh : PySem.W.findIn K (.ref St) "shape" = some (some (.ref fSh)))
    (hSh : PySem.W.isFn K (.ref fSh) = true)
    (lSh : K.lookup fSh = some ⟨ocSh, odSh, .func (PySem.W.fnOf "shape" "Store.shape" (defArgs sStoreShape) (defBody sStoreShape) (defScope sStoreShape) .none kVSh dcSh pmSh anSh cdSh ctSh), slSh⟩)
    (cSh : PySem.W.codeIn K cdSh "Store.shape" = true)
    (kSh : PySem.W.keepIn K (.ref fSh) = true)
    (mSk : PySem.W.findIn K (.ref St) "chunks" = some (some (.ref fSk)))
    (hSk : PySem.W.isFn K (.ref fSk) = true)
    (lSk : K.lookup fSk = some ⟨ocSk, odSk, .func (PySem.W.fnOf "chunks" "Store.chunks" (defArgs sStoreChunks) (defBody sStoreChunks) (defScope sStoreChunks) .none kVSk dcSk pmSk anSk cdSk ctSk), slSk⟩)
    (cSk : PySem.W.codeIn K cdSk "Store.chunks" = true)
    (kSk : PySem.W.keepIn K (.ref fSk) = true)
    (mSc : PySem.W.findIn K (.ref St) "chunk" = some (some (.ref fSc)))
    (hSc : PySem.W.isFn K (.ref fSc) = true)
    (lSc : K.lookup fSc = some ⟨ocSc, odSc, .func (PySem.W.fnOf "chunk" "Store.chunk" (defArgs sStoreChunk) (defBody sStoreChunk) (defScope sStoreChunk) .none kVSc dcSc pmSc anSc cdSc ctSc), slSc⟩)
    (cSc : PySem.W.codeIn K cdSc "Store.chunk" = true)
    (kSc : PySem.W.keepIn K (.ref fSc) = true)
    (mSp : PySem.W.findIn K (.ref St) "_append_record" = some (some (.ref fSp)))
    (hSp : PySem.W.isFn K (.ref fSp) = true)
    (lSp : K.lookup fSp = some ⟨ocSp, odSp, .func (PySem.W.fnOf "_append_record" "Store._append_record" (defArgs sStoreAppendRecord) (defBody sStoreAppendRecord) (defScope sStoreAppendRecord) .none kVSp dcSp pmSp anSp cdSp ctSp), slSp⟩)
    (cSp : PySem.W.codeIn K cdSp "Store._append_record" = true)
    (kSp : PySem.W.keepIn K (.ref fSp) = true)
    (mSg : PySem.W.findIn K (.ref St) "_record_again" = some (some (.ref fSg)))
    (hSg : PySem.W.isFn K (.ref fSg) = true)
    (lSg : K.lookup fSg = some ⟨ocSg, odSg, .func (PySem.W.fnOf "_record_again" "Store._record_again" (defArgs sStoreRecordAgain) (defBody sStoreRecordAgain) (defScope sStoreRecordAgain) .none kVSg dcSg pmSg anSg cdSg ctSg), slSg⟩)
    (cSg : PySem.W.codeIn K cdSg "Store._record_again" = true)
    (kSg : PySem.W.keepIn K (.ref fSg) = true)
    (mSx : PySem.W.findIn K (.ref St) "_take_root" = some (some (.ref fSx)))
    (hSx : PySem.W.isFn K (.ref fSx) = true)
    (lSx : K.lookup fSx = some ⟨ocSx, odSx, .func (PySem.W.fnOf "_take_root" "Store._take_root" (defArgs sStoreTakeRoot) (defBody sStoreTakeRoot) (defScope sStoreTakeRoot) .none kVSx dcSx pmSx anSx cdSx ctSx), slSx⟩)
    (cSx : PySem.W.codeIn K cdSx "Store._take_root" = true)
    (kSx : PySem.W.keepIn K (.ref fSx) = true)
    (mSw : PySem.W.findIn K (.ref St) "write_root" = some (some (.ref fSw)))
    (hSw : PySem.W.isFn K (.ref fSw) = true)
    (lSw : K.lookup fSw = some ⟨ocSw, odSw, .func (PySem.W.fnOf "write_root" "Store.write_root" (defArgs sStoreWriteRoot) (defBody sStoreWriteRoot) (defScope sStoreWriteRoot) .none kVSw dcSw pmSw anSw cdSw ctSw), slSw⟩)
    (cSw : PySem.W.codeIn K cdSw "Store.write_root" = true)
    (kSw : PySem.W.keepIn K (.ref fSw) = true)
    (mSq : PySem.W.findIn K (.ref St) "put" = some (some (.ref fSq)))
    (hSq : PySem.W.isFn K (.ref fSq) = true)
    (lSq : K.lookup fSq = some ⟨ocSq, odSq, .func (PySem.W.fnOf "put" "Store.put" (defArgs sStorePut) (defBody sStorePut) (defScope sStorePut) .none kVSq dcSq pmSq anSq cdSq ctSq), slSq⟩)
    (cSq : PySem.W.codeIn K cdSq "Store.put" = true)
    (kSq : PySem.W.keepIn K (.ref fSq) = true)
    (qS1 : PySem.W.notFirst K S (.ref S) = true)
    (qS2 : PySem.W.notFirst K S (.type "tuple") = true)
    (qS3 : PySem.W.findIn K (.ref S) "__class__" = some (some (.builtin "object.__class__")))
    (qS4 : PySem.W.mroIn K S (.type "object") = some true)
    (qS5 : PySem.W.kitOne K (.ref S) (.ref S) = some true)
    (qS6 : PySem.W.kitOne K (.type "tuple") (.ref S) = some false)
    (nq1 : (Dk == R) = false)
    (nq2 : (Dk == S) = false)
    (nq3 : (Cc == R) = false)
    (nq4 : (Cc == S) = false)
    (nq5 : (St == R) = false)
    (nq6 : (St == S) = false)
    (lE : K.lookup fE = some ⟨ocE, odE, .func (PySem.W.fnOf "__init__" "ManysidesError.__init__" (defArgs sInit) (defBody sInit) (defScope sInit) .none kVE dcE pmE anE cdE ctE), slE⟩)
    (cE : PySem.W.codeIn K cdE "ManysidesError.__init__" = true)
    (kE : PySem.W.keepIn K (.ref fE) = true)
    (tIE : PySem.W.typeIn K (.ref fE) = some (.type "function"))
    : ∃ fd : FuncData, (∀ (s : Shared) (v : Value), BindsTo s fd ⟨[v], []⟩ [("script", v)]) ∧ ∀ base : Heap, K.In base → base.Ns mainGlobals mg → FnOk l.prog w K mg base CX0 11 fa fd ["script"] (spLaw K) := by
  have e := hfa.symm.trans (PySem.W.mg_of X G a33)
  cases e
  refine ⟨PySem.W.fnOf "law" "law" (defArgs sLaw) (defBody sLaw) (defScope sLaw) .none kV33 dc33 pm33 an33 cd33 ct33, fun s v => .of_eq rfl, fun base _ _ => ?_⟩
  have F1 := fun_mk (st := sEncodeText) l1 c1 k1
  have F2 := fun_mk (st := sDecodeText) l2 c2 k2
  have F3 := fun_mk (st := sIsCode) l3 c3 k3
  have F4 := fun_mk (st := sCharacterOf) l4 c4 k4
  have F5 := fun_mk (st := sCheckShape) l5 c5 k5
  have F6 := fun_mk (st := sIsDim) l6 c6 k6
  have F7 := fun_mk (st := sIsAttr) l7 c7 k7
  have F8 := fun_mk (st := sIsSimpleName) l8 c8 k8
  have F9 := fun_mk (st := sSumOf) l9 c9 k9
  have F10 := fun_mk (st := sWriteFour) l10 c10 k10
  have F11 := fun_mk (st := sWriteName) l11 c11 k11
  have F12 := fun_mk (st := sEncodeRoot) l12 c12 k12
  have F13 := fun_mk (st := sWriteShape) l13 c13 k13
  have F14 := fun_mk (st := sWriteChunks) l14 c14 k14
  have F15 := fun_mk (st := sDecodeRoot) l15 c15 k15
  have F16 := fun_mk (st := sReadArrays) l16 c16 k16
  have F17 := fun_mk (st := sReadName) l17 c17 k17
  have F18 := fun_mk (st := sReadShape) l18 c18 k18
  have F19 := fun_mk (st := sReadDim) l19 c19 k19
  have F20 := fun_mk (st := sReadAttr) l20 c20 k20
  have F21 := fun_mk (st := sReadChunks) l21 c21 k21
  have F22 := fun_mk (st := sDataFile) l22 c22 k22
  have F23 := fun_mk (st := sRootOn) l23 c23 k23
  have F24 := fun_mk (st := sRecordsByVersion) l24 c24 k24
  have F25 := fun_mk (st := sChangeNames) l25 c25 k25
  have F26 := fun_mk (st := sOctetsLeft) l26 c26 k26
  have F27 := fun_mk (st := sDraw) l27 c27 k27
  have F28 := fun_mk (st := sShape) l28 c28 k28
  have F29 := fun_mk (st := sLChunks) l29 c29 k29
  have F30 := fun_mk (st := sLArrays) l30 c30 k30
  have F31 := fun_mk (st := sLSame) l31 c31 k31
  have F32 := fun_mk (st := sLRefused) l32 c32 k32
  have F33 := fun_mk (st := sLaw) l33 c33 k33
  have b1 := F1.binds (ps := ["text"]) fun _ _ _ _ _ _ us hl => match us, hl with | [_], _ => rfl
  have b2 := F2.binds (ps := ["octets"]) fun _ _ _ _ _ _ us hl => match us, hl with | [_], _ => rfl
  have b3 := F3.binds (ps := ["octet"]) fun _ _ _ _ _ _ us hl => match us, hl with | [_], _ => rfl
  have b4 := F4.binds (ps := ["code"]) fun _ _ _ _ _ _ us hl => match us, hl with | [_], _ => rfl
  have b5 := F5.binds (ps := ["shape"]) fun _ _ _ _ _ _ us hl => match us, hl with | [_], _ => rfl
  have b6 := F6.binds (ps := ["dim"]) fun _ _ _ _ _ _ us hl => match us, hl with | [_], _ => rfl
  have b7 := F7.binds (ps := ["attr"]) fun _ _ _ _ _ _ us hl => match us, hl with | [_], _ => rfl
  have b8 := F8.binds (ps := ["text"]) fun _ _ _ _ _ _ us hl => match us, hl with | [_], _ => rfl
  have b9 := F9.binds (ps := ["octets"]) fun _ _ _ _ _ _ us hl => match us, hl with | [_], _ => rfl
  have b10 := F10.binds (ps := ["number"]) fun _ _ _ _ _ _ us hl => match us, hl with | [_], _ => rfl
  have b11 := F11.binds (ps := ["name"]) fun _ _ _ _ _ _ us hl => match us, hl with | [_], _ => rfl
  have b12 := F12.binds (ps := ["root"]) fun _ _ _ _ _ _ us hl => match us, hl with | [_], _ => rfl
  have b13 := F13.binds (ps := ["shape"]) fun _ _ _ _ _ _ us hl => match us, hl with | [_], _ => rfl
  have b14 := F14.binds (ps := ["chunks"]) fun _ _ _ _ _ _ us hl => match us, hl with | [_], _ => rfl
  have b15 := F15.binds (ps := ["octets"]) fun _ _ _ _ _ _ us hl => match us, hl with | [_], _ => rfl
  have b16 := F16.binds (ps := ["reader"]) fun _ _ _ _ _ _ us hl => match us, hl with | [_], _ => rfl
  have b17 := F17.binds (ps := ["reader"]) fun _ _ _ _ _ _ us hl => match us, hl with | [_], _ => rfl
  have b18 := F18.binds (ps := ["reader"]) fun _ _ _ _ _ _ us hl => match us, hl with | [_], _ => rfl
  have b19 := F19.binds (ps := ["reader"]) fun _ _ _ _ _ _ us hl => match us, hl with | [_], _ => rfl
  have b20 := F20.binds (ps := ["reader"]) fun _ _ _ _ _ _ us hl => match us, hl with | [_], _ => rfl
  have b21 := F21.binds (ps := ["reader", "shape"]) fun _ _ _ _ _ _ us hl => match us, hl with | [_, _], _ => rfl
  have b22 := F22.binds (ps := ["number"]) fun _ _ _ _ _ _ us hl => match us, hl with | [_], _ => rfl
  have b23 := F23.binds (ps := ["disk"]) fun _ _ _ _ _ _ us hl => match us, hl with | [_], _ => rfl
  have b24 := F24.binds (ps := ["root"]) fun _ _ _ _ _ _ us hl => match us, hl with | [_], _ => rfl
  have b25 := F25.binds (ps := ["contents", "change"]) fun _ _ _ _ _ _ us hl => match us, hl with | [_, _], _ => rfl
  have b26 := F26.binds (ps := ["content", "choices"]) fun _ _ _ _ _ _ us hl => match us, hl with | [_, _], _ => rfl
  have b27 := F27.binds (ps := ["state", "script", "size"]) fun _ _ _ _ _ _ us hl => match us, hl with | [_, _, _], _ => rfl
  have b28 := F28.binds (ps := ["state", "script"]) fun _ _ _ _ _ _ us hl => match us, hl with | [_, _], _ => rfl
  have b29 := F29.binds (ps := ["shape"]) fun _ _ _ _ _ _ us hl => match us, hl with | [_], _ => rfl
  have b30 := F30.binds (ps := ["state", "script", "before"]) fun _ _ _ _ _ _ us hl => match us, hl with | [_, _, _], _ => rfl
  have b31 := F31.binds (ps := ["store", "model"]) fun _ _ _ _ _ _ us hl => match us, hl with | [_, _], _ => rfl
  have b32 := F32.binds (ps := ["store", "number"]) fun _ _ _ _ _ _ us hl => match us, hl with | [_, _], _ => rfl
  have M : Nm mg := ⟨PySem.W.mg_none_of X G z1, PySem.W.mg_none_of X G z2, PySem.W.mg_none_of X G z3, PySem.W.mg_none_of X G z4, PySem.W.mg_none_of X G z5, PySem.W.mg_none_of X G z6, PySem.W.mg_none_of X G z7, PySem.W.mg_none_of X G z8, PySem.W.mg_none_of X G z9, PySem.W.mg_none_of X G z10, PySem.W.mg_none_of X G z11, PySem.W.mg_none_of X G z12, PySem.W.mg_none_of X G z13, PySem.W.mg_none_of X G z14, PySem.W.mg_none_of X G z15, PySem.W.mg_none_of X G z16, PySem.W.mg_none_of X G z17, PySem.W.mg_none_of X G z18⟩
  have hall := PySem.W.mg_none_of X G z19
  have go := PySem.W.mg_none_of X G z20
  have FE := fun_mk (st := sInit) lE cE kE
  have bE := FE.binds (ps := ["self", "place"]) fun _ _ _ _ _ _ us hl => match us, hl with | [_, _], _ => rfl
  have ER1 : ErrC K C1 fE "PowerLost" := ⟨⟨⟨_, _, _, _, _, _, _, _, _, _, _, _, _, _, _, xL1, rfl⟩, sa1, hs1, tyC1, kC1⟩, ⟨ga1, gg1, hs1, hd1, ha1, hn, ht, hm1⟩, ⟨rd1, fc1, tyC1, _, _, xL1, rfl⟩, ⟨ga1, gg1, hs1, hd1⟩, noP1, noN1, iC1, tIE⟩
  have gE1 := PySem.W.mg_of X G eC1
  have EX1 := PySem.W.exm_ref hs1 hd1 tyC1 sCC1
  have ER2 : ErrC K C2 fE "InvalidVersion" := ⟨⟨⟨_, _, _, _, _, _, _, _, _, _, _, _, _, _, _, xL2, rfl⟩, sa2, hs2, tyC2, kC2⟩, ⟨ga2, gg2, hs2, hd2, ha2, hn, ht, hm2⟩, ⟨rd2, fc2, tyC2, _, _, xL2, rfl⟩, ⟨ga2, gg2, hs2, hd2⟩, noP2, noN2, iC2, tIE⟩
  have gE2 := PySem.W.mg_of X G eC2
  have EX2 := PySem.W.exm_ref hs2 hd2 tyC2 sCC2
  have FOI := fun_mk (st := sOctetReaderInit) lOI cOI kOI
  have bOI := FOI.binds (ps := ["self", "octets"]) fun _ _ _ _ _ _ us hl => match us, hl with | [_, _], _ => rfl
  have FSI := fun_mk (st := sShInit) lSI cSI kSI
  have bSI := FSI.binds (ps := ["self", "dims", "attrs"]) fun _ _ _ _ _ _ us hl => match us, hl with | [_, _, _], _ => rfl
  have FRI := fun_mk (st := sRootInit) lRI cRI kRI
  have bRI := FRI.binds (ps := ["self", "upcoming", "data", "versions"]) fun _ _ _ _ _ _ us hl => match us, hl with | [_, _, _, _], _ => rfl
  have FCcI := fun_mk (st := sContentInit) lCcI cCcI kCcI
  have bCcI := FCcI.binds (ps := ["self", "octets"]) fun _ _ _ _ _ _ us hl => match us, hl with | [_, _], _ => rfl
  have FChI := fun_mk (st := sChoicesInit) lChI cChI kChI
  have bChI := FChI.binds (ps := ["self", "choices"]) fun _ _ _ _ _ _ us hl => match us, hl with | [_, _], _ => rfl
  have FDkI := fun_mk (st := sDiskInit) lDkI cDkI kDkI
  have bDkI := FDkI.binds (ps := ["self"]) fun _ _ _ _ _ _ us hl => match us, hl with | [_], _ => rfl
  have FStI := fun_mk (st := sStoreInit) lStI cStI kStI
  have bStI := FStI.binds (ps := ["self", "disk"]) fun _ _ _ _ _ _ us hl => match us, hl with | [_, _], _ => rfl
  have FOe := fun_mk (st := sOctetReaderIsAtEnd) lOe cOe kOe
  have bOe := FOe.binds (ps := ["self"]) fun _ _ _ _ _ _ us hl => match us, hl with | [_], _ => rfl
  have MOe : Meth K O "is_at_end" fOe := ⟨mOe, hOe, kOe⟩
  have FOn := fun_mk (st := sOctetReaderNextOctets) lOn cOn kOn
  have bOn := FOn.binds (ps := ["self", "count"]) fun _ _ _ _ _ _ us hl => match us, hl with | [_, _], _ => rfl
  have MOn : Meth K O "next_octets" fOn := ⟨mOn, hOn, kOn⟩
  have FOo := fun_mk (st := sOctetReaderNextOctetOf) lOo cOo kOo
  have bOo := FOo.binds (ps := ["self", "allowed"]) fun _ _ _ _ _ _ us hl => match us, hl with | [_, _], _ => rfl
  have MOo : Meth K O "next_octet_of" fOo := ⟨mOo, hOo, kOo⟩
  have FO4 := fun_mk (st := sOctetReaderNextFour) lO4 cO4 kO4
  have bO4 := FO4.binds (ps := ["self"]) fun _ _ _ _ _ _ us hl => match us, hl with | [_], _ => rfl
  have MO4 : Meth K O "next_four" fO4 := ⟨mO4, hO4, kO4⟩
  have FOi := fun_mk (st := sOctetReaderNextFourIn) lOi cOi kOi
  have bOi := FOi.binds (ps := ["self", "least", "greatest"]) fun _ _ _ _ _ _ us hl => match us, hl with | [_, _, _], _ => rfl
  have MOi : Meth K O "next_four_in" fOi := ⟨mOi, hOi, kOi⟩
  have FSE := fun_mk (st := sShEq) lSE cSE kSE
  have bSE := FSE.binds (ps := ["self", "other"]) fun _ _ _ _ _ _ us hl => match us, hl with | [_, _], _ => rfl
  have FNb := fun_mk (st := sChoicesNextBelow) lNb cNb kNb
  have bNb := FNb.binds (ps := ["self", "bound"]) fun _ _ _ _ _ _ us hl => match us, hl with | [_, _], _ => rfl
  have MNb : Meth K Ch "next_below" fNb := ⟨mNb, hNb, kNb⟩
  have FDn := fun_mk (st := sDiskNames) lDn cDn kDn
  have bDn := FDn.binds (ps := ["self"]) fun _ _ _ _ _ _ us hl => match us, hl with | [_], _ => rfl
  have MDn : Meth K Dk "names" fDn := ⟨mDn, hDn, kDn⟩
  have FDs := fun_mk (st := sDiskSize) lDs cDs kDs
  have bDs := FDs.binds (ps := ["self", "name"]) fun _ _ _ _ _ _ us hl => match us, hl with | [_, _], _ => rfl
  have MDs : Meth K Dk "size" fDs := ⟨mDs, hDs, kDs⟩
  have FDr := fun_mk (st := sDiskRead) lDr cDr kDr
  have bDr := FDr.binds (ps := ["self", "name", "start", "count"]) fun _ _ _ _ _ _ us hl => match us, hl with | [_, _, _, _], _ => rfl
  have MDr : Meth K Dk "read" fDr := ⟨mDr, hDr, kDr⟩
  have FDa := fun_mk (st := sDiskAppend) lDa cDa kDa
  have bDa := FDa.binds (ps := ["self", "name", "octets"]) fun _ _ _ _ _ _ us hl => match us, hl with | [_, _, _], _ => rfl
  have MDa : Meth K Dk "append" fDa := ⟨mDa, hDa, kDa⟩
  have FDy := fun_mk (st := sDiskSync) lDy cDy kDy
  have bDy := FDy.binds (ps := ["self", "name"]) fun _ _ _ _ _ _ us hl => match us, hl with | [_, _], _ => rfl
  have MDy : Meth K Dk "sync" fDy := ⟨mDy, hDy, kDy⟩
  have FDe := fun_mk (st := sDiskRename) lDe cDe kDe
  have bDe := FDe.binds (ps := ["self", "old", "new"]) fun _ _ _ _ _ _ us hl => match us, hl with | [_, _, _], _ => rfl
  have MDe : Meth K Dk "rename" fDe := ⟨mDe, hDe, kDe⟩
  have FDz := fun_mk (st := sDiskSyncNames) lDz cDz kDz
  have bDz := FDz.binds (ps := ["self"]) fun _ _ _ _ _ _ us hl => match us, hl with | [_], _ => rfl
  have MDz : Meth K Dk "sync_names" fDz := ⟨mDz, hDz, kDz⟩
  have FDo := fun_mk (st := sDiskLose) lDo cDo kDo
  have bDo := FDo.binds (ps := ["self", "choices"]) fun _ _ _ _ _ _ us hl => match us, hl with | [_, _], _ => rfl
  have MDo : Meth K Dk "lose" fDo := ⟨mDo, hDo, kDo⟩
  have FDb := fun_mk (st := sDiskBeginDeed) lDb cDb kDb
  have bDb := FDb.binds (ps := ["self"]) fun _ _ _ _ _ _ us hl => match us, hl with | [_], _ => rfl
  have MDb : Meth K Dk "_begin_deed" fDb := ⟨mDb, hDb, kDb⟩
  have FDc := fun_mk (st := sDiskChange) lDc cDc kDc
  have bDc := FDc.binds (ps := ["self", "old", "new", "content"]) fun _ _ _ _ _ _ us hl => match us, hl with | [_, _, _, _], _ => rfl
  have MDc : Meth K Dk "_change" fDc := ⟨mDc, hDc, kDc⟩
  have FDh := fun_mk (st := sDiskHold) lDh cDh kDh
  have bDh := FDh.binds (ps := ["self", "name", "octets"]) fun _ _ _ _ _ _ us hl => match us, hl with | [_, _, _], _ => rfl
  have MDh : Meth K Dk "_hold" fDh := ⟨mDh, hDh, kDh⟩
  have FSr := fun_mk (st := sStoreRoot) lSr cSr kSr
  have bSr := FSr.binds (ps := ["self"]) fun _ _ _ _ _ _ us hl => match us, hl with | [_], _ => rfl
  have MSr : Meth K St "root" fSr := ⟨mSr, hSr, kSr⟩
  have FSd := fun_mk (st := sStoreDataName) lSd cSd kSd
  have bSd := FSd.binds (ps := ["self"]) fun _ _ _ _ _ _ us hl => match us, hl with | [_], _ => rfl
  have MSd : Meth K St "data_name" fSd := ⟨mSd, hSd, kSd⟩
  have FSz := fun_mk (st := sStoreDataSize) lSz cSz kSz
  have bSz := FSz.binds (ps := ["self"]) fun _ _ _ _ _ _ us hl => match us, hl with | [_], _ => rfl
  have MSz : Meth K St "data_size" fSz := ⟨mSz, hSz, kSz⟩
  have FSo := fun_mk (st := sStoreStandingOctets) lSo cSo kSo
  have bSo := FSo.binds (ps := ["self", "offset", "length"]) fun _ _ _ _ _ _ us hl => match us, hl with | [_, _, _], _ => rfl
  have MSo : Meth K St "standing_octets" fSo := ⟨mSo, hSo, kSo⟩
  have FSu := fun_mk (st := sStoreSoundOctets) lSu cSu kSu
  have bSu := FSu.binds (ps := ["self", "offset", "length"]) fun _ _ _ _ _ _ us hl => match us, hl with | [_, _, _], _ => rfl
  have MSu : Meth K St "sound_octets" fSu := ⟨mSu, hSu, kSu⟩
  have FSa := fun_mk (st := sStoreArraysOf) lSa cSa kSa
  have bSa := FSa.binds (ps := ["self", "version"]) fun _ _ _ _ _ _ us hl => match us, hl with | [_, _], _ => rfl
  have MSa : Meth K St "_arrays_of" fSa := ⟨mSa, hSa, kSa⟩
  have FSv := fun_mk (st := sStoreVersions) lSv cSv kSv
  have bSv := FSv.binds (ps := ["self"]) fun _ _ _ _ _ _ us hl => match us, hl with | [_], _ => rfl
  have MSv : Meth K St "versions" fSv := ⟨mSv, hSv, kSv⟩
  have FSl := fun_mk (st := sStoreLatest) lSl cSl kSl
  have bSl := FSl.binds (ps := ["self"]) fun _ _ _ _ _ _ us hl => match us, hl with | [_], _ => rfl
  have MSl : Meth K St "latest" fSl := ⟨mSl, hSl, kSl⟩
  have FSy := fun_mk (st := sStoreArrays) lSy cSy kSy
  have bSy := FSy.binds (ps := ["self", "version"]) fun _ _ _ _ _ _ us hl => match us, hl with | [_, _], _ => rfl
  have MSy : Meth K St "arrays" fSy := ⟨mSy, hSy, kSy⟩
  have FSh := fun_mk (st := sStoreShape) lSh cSh kSh
  have bSh := FSh.binds (ps := ["self", "version", "name"]) fun _ _ _ _ _ _ us hl => match us, hl with | [_, _, _], _ => rfl
  have MSh : Meth K St "shape" fSh := ⟨mSh, hSh, kSh⟩
  have FSk := fun_mk (st := sStoreChunks) lSk cSk kSk
  have bSk := FSk.binds (ps := ["self", "version", "name"]) fun _ _ _ _ _ _ us hl => match us, hl with | [_, _, _], _ => rfl
  have MSk : Meth K St "chunks" fSk := ⟨mSk, hSk, kSk⟩
  have FSc := fun_mk (st := sStoreChunk) lSc cSc kSc
  have bSc := FSc.binds (ps := ["self", "version", "name", "chunk"]) fun _ _ _ _ _ _ us hl => match us, hl with | [_, _, _, _], _ => rfl
  have MSc : Meth K St "chunk" fSc := ⟨mSc, hSc, kSc⟩
  have FSp := fun_mk (st := sStoreAppendRecord) lSp cSp kSp
  have bSp := FSp.binds (ps := ["self", "octets"]) fun _ _ _ _ _ _ us hl => match us, hl with | [_, _], _ => rfl
  have MSp : Meth K St "_append_record" fSp := ⟨mSp, hSp, kSp⟩
  have FSg := fun_mk (st := sStoreRecordAgain) lSg cSg kSg
  have bSg := FSg.binds (ps := ["self", "name", "chunk", "octets"]) fun _ _ _ _ _ _ us hl => match us, hl with | [_, _, _, _], _ => rfl
  have MSg : Meth K St "_record_again" fSg := ⟨mSg, hSg, kSg⟩
  have FSx := fun_mk (st := sStoreTakeRoot) lSx cSx kSx
  have bSx := FSx.binds (ps := ["self", "root"]) fun _ _ _ _ _ _ us hl => match us, hl with | [_, _], _ => rfl
  have MSx : Meth K St "_take_root" fSx := ⟨mSx, hSx, kSx⟩
  have FSw := fun_mk (st := sStoreWriteRoot) lSw cSw kSw
  have bSw := FSw.binds (ps := ["self", "root"]) fun _ _ _ _ _ _ us hl => match us, hl with | [_, _], _ => rfl
  have MSw : Meth K St "write_root" fSw := ⟨mSw, hSw, kSw⟩
  have FSq := fun_mk (st := sStorePut) lSq cSq kSq
  have bSq := FSq.binds (ps := ["self", "arrays"]) fun _ _ _ _ _ _ us hl => match us, hl with | [_, _], _ => rfl
  have MSq : Meth K St "put" fSq := ⟨mSq, hSq, kSq⟩
  have IS : IsiC K S fSE := ⟨mSE, hSE, qS1, qS2, qS3, hn, ht, qS4, qS5, qS6⟩
  have TO : KC K O fOI ORf := ⟨⟨xO1, xO2, xO3, xO4⟩, ⟨xO5, xO6, xO7, xO8⟩, show ∀ f ∈ (["octets", "at"] : List Str), NoAttr K O f from List.forall_mem_cons.mpr ⟨xOn0, List.forall_mem_cons.mpr ⟨xOn1, fun _ h => absurd h List.not_mem_nil⟩⟩⟩
  have gO := PySem.W.mg_of X G xOe
  have TS : KC K S fSI SHf := ⟨⟨xS1, xS2, xS3, xS4⟩, ⟨xS5, xS6, xS7, xS8⟩, show ∀ f ∈ (["dims", "attrs"] : List Str), NoAttr K S f from List.forall_mem_cons.mpr ⟨xSn0, List.forall_mem_cons.mpr ⟨xSn1, fun _ h => absurd h List.not_mem_nil⟩⟩⟩
  have gS := PySem.W.mg_of X G xSe
  have TR : KC K R fRI RHf := ⟨⟨xR1, xR2, xR3, xR4⟩, ⟨xR5, xR6, xR7, xR8⟩, show ∀ f ∈ (["upcoming", "data", "versions"] : List Str), NoAttr K R f from List.forall_mem_cons.mpr ⟨xRn0, List.forall_mem_cons.mpr ⟨xRn1, List.forall_mem_cons.mpr ⟨xRn2, fun _ h => absurd h List.not_mem_nil⟩⟩⟩⟩
  have gR := PySem.W.mg_of X G xRe
  have TCc : KC K Cc fCcI CCf := ⟨⟨xCc1, xCc2, xCc3, xCc4⟩, ⟨xCc5, xCc6, xCc7, xCc8⟩, show ∀ f ∈ (["octets", "sure"] : List Str), NoAttr K Cc f from List.forall_mem_cons.mpr ⟨xCcn0, List.forall_mem_cons.mpr ⟨xCcn1, fun _ h => absurd h List.not_mem_nil⟩⟩⟩
  have gCc := PySem.W.mg_of X G xCce
  have TCh : KC K Ch fChI CHf := ⟨⟨xCh1, xCh2, xCh3, xCh4⟩, ⟨xCh5, xCh6, xCh7, xCh8⟩, show ∀ f ∈ (["rest"] : List Str), NoAttr K Ch f from List.forall_mem_cons.mpr ⟨xChn0, fun _ h => absurd h List.not_mem_nil⟩⟩
  have gCh := PySem.W.mg_of X G xChe
  have TDk : KC K Dk fDkI CDf := ⟨⟨xDk1, xDk2, xDk3, xDk4⟩, ⟨xDk5, xDk6, xDk7, xDk8⟩, show ∀ f ∈ (["_contents", "_sure_contents", "_changes", "_allowed", "_done"] : List Str), NoAttr K Dk f from List.forall_mem_cons.mpr ⟨xDkn0, List.forall_mem_cons.mpr ⟨xDkn1, List.forall_mem_cons.mpr ⟨xDkn2, List.forall_mem_cons.mpr ⟨xDkn3, List.forall_mem_cons.mpr ⟨xDkn4, fun _ h => absurd h List.not_mem_nil⟩⟩⟩⟩⟩⟩
  have gDk := PySem.W.mg_of X G xDke
  have TSt : KC K St fStI SFf := ⟨⟨xSt1, xSt2, xSt3, xSt4⟩, ⟨xSt5, xSt6, xSt7, xSt8⟩, show ∀ f ∈ (["disk", "_root", "_versions"] : List Str), NoAttr K St f from List.forall_mem_cons.mpr ⟨xStn0, List.forall_mem_cons.mpr ⟨xStn1, List.forall_mem_cons.mpr ⟨xStn2, fun _ h => absurd h List.not_mem_nil⟩⟩⟩⟩
  have gSt := PySem.W.mg_of X G xSte
  have NE : Neq St Dk Cc R S := ⟨beq_eq_false_iff_ne.mp nq1, beq_eq_false_iff_ne.mp nq2, beq_eq_false_iff_ne.mp nq3, beq_eq_false_iff_ne.mp nq4, beq_eq_false_iff_ne.mp nq5, beq_eq_false_iff_ne.mp nq6⟩
  have Y : CtS mg := ⟨⟨_, PySem.W.mg_of X G g16, ⟨_, rfl⟩⟩, ⟨_, PySem.W.mg_of X G g17, ⟨_, rfl⟩⟩, ⟨_, PySem.W.mg_of X G g18, ⟨_, rfl⟩⟩, ⟨_, PySem.W.mg_of X G g19, ⟨_, rfl⟩⟩⟩
  have C1' : Ct mg := ⟨⟨_, PySem.W.mg_of X G g1, ⟨_, rfl⟩⟩⟩
  have C2' : Ct2 K mg := ⟨⟨_, PySem.W.mg_of X G g2, ⟨_, rfl⟩⟩, kK, PySem.W.mg_of X G eKK, fun _ => .inr ⟨_, _, _, lKK, rfl, rfl, (by show 3 ≤ sizeLine; decide), .cons ⟨_, rfl⟩ (.cons ⟨_, rfl⟩ (.cons ⟨_, rfl⟩ .nil))⟩, _, lKK, rfl, rfl⟩
  have C3' : Ct3 K mg := ⟨kF, PySem.W.mg_of X G eFF, fun _ => .inr ⟨_, _, _, lFF, rfl, rfl, (by show 2 ≤ sizeLine; decide), .cons ⟨_, rfl⟩ (.cons ⟨_, rfl⟩ .nil)⟩⟩
  have C4' : Ct4 mg := ⟨⟨_, PySem.W.mg_of X G g4, ⟨_, rfl⟩⟩, ⟨_, PySem.W.mg_of X G g5, ⟨_, rfl⟩⟩, ⟨_, PySem.W.mg_of X G g6, ⟨_, rfl⟩⟩, ⟨_, PySem.W.mg_of X G g7, ⟨_, rfl⟩⟩, ⟨_, PySem.W.mg_of X G g8, ⟨_, rfl⟩⟩, ⟨_, PySem.W.mg_of X G g9, ⟨_, rfl⟩⟩, ⟨_, PySem.W.mg_of X G g10, ⟨_, rfl⟩⟩, ⟨_, PySem.W.mg_of X G g11, ⟨_, rfl⟩⟩⟩
  have C5' : Ct5 mg := ⟨⟨_, PySem.W.mg_of X G g12, ⟨_, rfl⟩⟩, ⟨_, PySem.W.mg_of X G g13, ⟨_, rfl⟩⟩, ⟨_, PySem.W.mg_of X G g14, ⟨_, rfl⟩⟩, ⟨_, PySem.W.mg_of X G g15, ⟨_, rfl⟩⟩⟩
  have C6' : Ct6 mg := ⟨⟨_, PySem.W.mg_of X G g3, ⟨_, rfl⟩⟩⟩
  have GNo := ok_no (P := l.prog) (w := w) (mg := mg) (base := base) FOn M TO
  have GOf := ok_of (P := l.prog) (w := w) (mg := mg) (base := base) FOo TO GNo bOn MOn
  have G4 := ok_n4 (P := l.prog) (w := w) (mg := mg) (base := base) FO4 TO GNo bOn MOn
  have Gi := ok_n4i (P := l.prog) (w := w) (mg := mg) (base := base) FOi TO G4 bO4 MO4
  have RX : RF l.prog w K mg base O := ⟨_, _, _, _, _, _, _, _, _, TO, GNo, bOn, MOn, GOf, bOo, MOo, G4, bO4, MO4, Gi, bOi, MOi⟩
  have GSi := ok_simple (P := l.prog) (w := w) (mg := mg) (base := base) F8 M C4'
  have GDe := ok_dec (P := l.prog) (w := w) (mg := mg) (base := base) F2 M C4' F3 b3 (PySem.W.mg_of X G a3) F4 b4 (PySem.W.mg_of X G a4)
  have GRN := ok_rn (P := l.prog) (w := w) (mg := mg) (base := base) F17 RX GDe k2 b2 (PySem.W.mg_of X G a2) GSi k8 b8 (PySem.W.mg_of X G a8)
  have GRD := ok_rdm (P := l.prog) (w := w) (mg := mg) (base := base) F19 RX C2' GRN k17 b17 (PySem.W.mg_of X G a17)
  have GRA := ok_ra (P := l.prog) (w := w) (mg := mg) (base := base) F20 RX C2' GRN k17 b17 (PySem.W.mg_of X G a17)
  have GID := ok_isDim (P := l.prog) (w := w) (mg := mg) (base := base) F6 C5' GSi k8 b8 (PySem.W.mg_of X G a8)
  have GIA := ok_isAttr (P := l.prog) (w := w) (mg := mg) (base := base) F7 C2' GSi k8 b8 (PySem.W.mg_of X G a8)
  have GCk := ok_check (P := l.prog) (w := w) (mg := mg) (base := base) F5 M C5' TS GID k6 b6 (PySem.W.mg_of X G a6) GIA k7 b7 (PySem.W.mg_of X G a7)
  have GSI := ok_shI (P := l.prog) (w := w) (mg := mg) (base := base) FSI TS
  have GRS := ok_rs (P := l.prog) (w := w) (mg := mg) (base := base) F18 M RX TS GSI bSI gS GRD k19 b19 (PySem.W.mg_of X G a19) GRA k20 b20 (PySem.W.mg_of X G a20) GCk k5 b5 (PySem.W.mg_of X G a5)
  have GRC := ok_rc (P := l.prog) (w := w) (mg := mg) (base := base) F21 M hall RX TS
  have GRAs := ok_ras (P := l.prog) (w := w) (mg := mg) (base := base) F16 M RX GRN k17 b17 (PySem.W.mg_of X G a17) GRS k18 b18 (PySem.W.mg_of X G a18) GRC k21 b21 (PySem.W.mg_of X G a21)
  have GSu := ok_sum (P := l.prog) (w := w) (mg := mg) (base := base) F9 C1'
  have GRI := ok_ri (P := l.prog) (w := w) (mg := mg) (base := base) (CR := R) (C := S) FRI TR
  have GDR := ok_dr (P := l.prog) (w := w) (mg := mg) (base := base) (CR := R) (C := S) F15 M C3' C6' RX TO (ok_orI FOI M TO) bOI gO (ok_end FOe M TO) bOe MOe GRAs k16 b16 (PySem.W.mg_of X G a16) GSu k9 b9 (PySem.W.mg_of X G a9) TR GRI bRI gR
  have GW4 := ok_w4 (P := l.prog) (w := w) (mg := mg) (base := base) F10
  have GER := ok_er (P := l.prog) (w := w) (mg := mg) (base := base) (CR := R) (C := S) F12 M TR C3' ⟨_, _, _, _, _, _, _, _, _, _, GW4, b10, k10, (PySem.W.mg_of X G a10), (ok_wn F11 M go F1 b1 (PySem.W.mg_of X G a1)), b11, k11, (PySem.W.mg_of X G a11), (ok_ws F13 M go TS C2' F10 b10 (PySem.W.mg_of X G a10) F11 b11 (PySem.W.mg_of X G a11) F1 b1 (PySem.W.mg_of X G a1)), b13, k13, (PySem.W.mg_of X G a13), (ok_wc F14 M F10 b10 (PySem.W.mg_of X G a10)), b14, k14, (PySem.W.mg_of X G a14), GSu, b9, k9, (PySem.W.mg_of X G a9)⟩
  have GB := ok_begin (P := l.prog) (w := w) (mg := mg) (base := base) (CD := Dk) (CC := Cc) FDb TDk FE bE ER1 gE1
  have GG := ok_change (P := l.prog) (w := w) (mg := mg) (base := base) (CD := Dk) (CC := Cc) FDc TDk F25 b25 (PySem.W.mg_of X G a25)
  have AP := ok_ap (P := l.prog) (w := w) (mg := mg) (base := base) (ok_append (CD := Dk) (CC := Cc) FDa M TDk TCc FCcI bCcI gCc GB bDb MDb GG bDc MDc)
  have SY := ok_sy (P := l.prog) (w := w) (mg := mg) (base := base) (ok_sync (CD := Dk) (CC := Cc) FDy M TDk TCc GB bDb MDb)
  have RN := ok_dren (P := l.prog) (w := w) (mg := mg) (base := base) (ok_rename (CD := Dk) (CC := Cc) FDe TDk GB bDb MDb GG bDc MDc)
  have SN := ok_sn (P := l.prog) (w := w) (mg := mg) (base := base) (ok_syncN (CD := Dk) (CC := Cc) FDz TDk GB bDb MDb)
  have SZ := ok_sz (P := l.prog) (w := w) (mg := mg) (base := base) (ok_size (CD := Dk) (CC := Cc) FDs M TDk TCc)
  have RF0 := ok_rf (P := l.prog) (w := w) (mg := mg) (base := base) (ok_read (CD := Dk) (CC := Cc) FDr TDk TCc)
  have NMS := ok_names (P := l.prog) (w := w) (mg := mg) (base := base) (CD := Dk) (CC := Cc) FDn M TDk
  have DI := ok_dInit (P := l.prog) (w := w) (mg := mg) (base := base) (CD := Dk) (CC := Cc) FDkI TDk
  have HO' := ok_hold (P := l.prog) (w := w) (mg := mg) (base := base) (CD := Dk) (CC := Cc) FDh M TDk TCc FCcI bCcI gCc
  have LS' := ok_ls (P := l.prog) (w := w) (mg := mg) (base := base) (ok_lose (CH := Ch) (CD := Dk) (CC := Cc) FDo M TDk ⟨_, _, _, _, _, _, _, _, _, _, _, _, ok_hInit FChI M TCh, bChI, ok_nb FNb TCh, bNb, MNb, ok_cn F25, b25, k25, (PySem.W.mg_of X G a25), ok_ol F26 M TCc TCh FNb bNb MNb, b26, k26, (PySem.W.mg_of X G a26), DI, bDkI, HO', bDh, MDh, gCh, gDk, TCh.mkC, TDk.mkC, TCh.cl⟩)
  have GDF := ok_df (P := l.prog) (w := w) (mg := mg) (base := base) F22 Y
  have GRoot := ok_root (P := l.prog) (w := w) (mg := mg) (base := base) (CS := St) (CD := Dk) (CC := Cc) (CR := R) (C := S) FSr TSt
  have GDN := ok_dn (P := l.prog) (w := w) (mg := mg) (base := base) (CS := St) (CD := Dk) (CC := Cc) (CR := R) (C := S) FSd TSt TR GDF k22 b22 (PySem.W.mg_of X G a22)
  have GDS := ok_ds (P := l.prog) (w := w) (mg := mg) (base := base) (CS := St) (CD := Dk) (CC := Cc) (CR := R) (C := S) FSz TSt TDk GDN MSd bSd SZ MDs bDs
  have GStd := ok_std (P := l.prog) (w := w) (mg := mg) (base := base) (CS := St) (CD := Dk) (CC := Cc) (CR := R) (C := S) FSo Y TSt TDk GDN MSd bSd SZ MDs bDs RF0 MDr bDr
  have GSo := ok_so (P := l.prog) (w := w) (mg := mg) (base := base) (CS := St) (CD := Dk) (CC := Cc) (CR := R) (C := S) FSu M Y TSt GStd MSo bSo GW4 k10 b10 (PySem.W.mg_of X G a10) GSu k9 b9 (PySem.W.mg_of X G a9)
  have GAo := ok_ao (P := l.prog) (w := w) (mg := mg) (base := base) (CS := St) (CD := Dk) (CC := Cc) (CR := R) (C := S) FSa TSt FE bE ER2 gE2
  have GAon := ok_aon (P := l.prog) (w := w) (mg := mg) (base := base) GAo
  have GVs := ok_vs (P := l.prog) (w := w) (mg := mg) (base := base) (CS := St) (CD := Dk) (CC := Cc) (CR := R) (C := S) FSv M TSt
  have GLt := ok_lt (P := l.prog) (w := w) (mg := mg) (base := base) (CS := St) (CD := Dk) (CC := Cc) (CR := R) (C := S) FSl M TSt
  have GArs := ok_ars (P := l.prog) (w := w) (mg := mg) (base := base) (CS := St) (CD := Dk) (CC := Cc) (CR := R) (C := S) FSy M TSt GAo MSa bSa
  have GArsn := ok_arsn (P := l.prog) (w := w) (mg := mg) (base := base) GArs
  have GShp := ok_shp (P := l.prog) (w := w) (mg := mg) (base := base) (CS := St) (CD := Dk) (CC := Cc) (CR := R) (C := S) FSh TSt GAon MSa bSa
  have GChs := ok_chs (P := l.prog) (w := w) (mg := mg) (base := base) (CS := St) (CD := Dk) (CC := Cc) (CR := R) (C := S) FSk M TSt GAon MSa bSa
  have GChk := ok_chk (P := l.prog) (w := w) (mg := mg) (base := base) (CS := St) (CD := Dk) (CC := Cc) (CR := R) (C := S) FSc TSt GAon MSa bSa GSo MSu bSu
  have GAr := ok_ar (P := l.prog) (w := w) (mg := mg) (base := base) (CS := St) (CD := Dk) (CC := Cc) (CR := R) (C := S) FSp M TSt TDk GDS MSz bSz GDN MSd bSd AP MDa bDa GW4 k10 b10 (PySem.W.mg_of X G a10) GSu k9 b9 (PySem.W.mg_of X G a9)
  have GRag := ok_rag (P := l.prog) (w := w) (mg := mg) (base := base) (CS := St) (CD := Dk) (CC := Cc) (CR := R) (C := S) FSg TSt GLt MSl bSl GAon MSa bSa GSo MSu bSu
  have GRb := ok_rb (P := l.prog) (w := w) (mg := mg) (base := base) (C := S) F24 TR
  have GTr := ok_tr (P := l.prog) (w := w) (mg := mg) (base := base) FSx TSt GRb k24 b24 (PySem.W.mg_of X G a24)
  have GRo := ok_ro (P := l.prog) (w := w) (mg := mg) (base := base) F23 Y TDk TR GRI bRI gR SZ MDs bDs RF0 MDr bDr GDR k15 b15 (PySem.W.mg_of X G a15)
  have GSt := ok_si (P := l.prog) (w := w) (mg := mg) (base := base) FStI NE Y TSt TDk GRo k23 b23 (PySem.W.mg_of X G a23) GTr MSx bSx GDN MSd bSd NMS MDn bDn
  have GWr := ok_wrt (P := l.prog) (w := w) (mg := mg) (base := base) (CS := St) (CD := Dk) (CC := Cc) (CR := R) (C := S) FSw Y TSt TDk GER k12 b12 (PySem.W.mg_of X G a12) AP MDa bDa SY MDy bDy RN MDe bDe SN MDz bDz GTr MSx bSx
  have GPut := ok_put (P := l.prog) (w := w) (mg := mg) (base := base) (CS := St) (CD := Dk) (CC := Cc) (CR := R) (C := S) FSq M TSt TDk TR GRI bRI gR GRag MSg bSg GAr MSp bSp SY MDy bDy GDN MSd bSd GRoot MSr bSr GWr MSw bSw
  have GDr := ok_draw (P := l.prog) (w := w) (mg := mg) (base := base) F27 M
  have GLSh := ok_lsh (P := l.prog) (w := w) (mg := mg) (base := base) F28 M TS GSI bSI gS GDr k27 b27 (PySem.W.mg_of X G a27)
  have GLC := ok_lc' (P := l.prog) (w := w) (mg := mg) (base := base) F29 M TS
  have GLar := ok_lar (P := l.prog) (w := w) (mg := mg) (base := base) (C := S) F30 M GDr k27 b27 (PySem.W.mg_of X G a27) GLSh k28 b28 (PySem.W.mg_of X G a28) GLC k29 b29 (PySem.W.mg_of X G a29)
  have GSE := ok_shEq (P := l.prog) (w := w) (mg := mg) (base := base) FSE M TS IS gS
  have GLsm := ok_lsm (P := l.prog) (w := w) (mg := mg) (base := base) (CS := St) (CD := Dk) (CC := Cc) (CR := R) (C := S) F31 M TSt IS GSE bSE GVs MSv bSv GLt MSl bSl GArsn MSy bSy GShp MSh bSh GChs MSk bSk GChk MSc bSc GLC k29 b29 (PySem.W.mg_of X G a29)
  have GLrf := ok_lrf (P := l.prog) (w := w) (mg := mg) (base := base) (CS := St) (CD := Dk) (CC := Cc) (CR := R) (C := S) F32 M TSt ER2 gE2 EX2 GArs MSy bSy
  exact ok_law F33 NE M TSt TDk GDr k27 b27 (PySem.W.mg_of X G a27) GLar k30 b30 (PySem.W.mg_of X G a30) GLsm k31 b31 (PySem.W.mg_of X G a31) GLrf k32 b32 (PySem.W.mg_of X G a32) DI bDkI gDk TDk.mkC GSt bStI gSt TSt.mkC GPut MSq bSq SZ MDs bDs LS' MDo bDo NMS MDn bDn
def q_a1 : FB := fun K => decide (PySem.W.nsIn K mainGlobals "encode_text" = some (some (.ref (He.ga K "encode_text"))))
def q_a2 : FB := fun K => decide (PySem.W.nsIn K mainGlobals "decode_text" = some (some (.ref (He.ga K "decode_text"))))
def q_a3 : FB := fun K => decide (PySem.W.nsIn K mainGlobals "is_code" = some (some (.ref (He.ga K "is_code"))))
def q_a4 : FB := fun K => decide (PySem.W.nsIn K mainGlobals "character_of" = some (some (.ref (He.ga K "character_of"))))
def q_a5 : FB := fun K => decide (PySem.W.nsIn K mainGlobals "check_shape" = some (some (.ref (He.ga K "check_shape"))))
def q_a6 : FB := fun K => decide (PySem.W.nsIn K mainGlobals "is_dim" = some (some (.ref (He.ga K "is_dim"))))
def q_a7 : FB := fun K => decide (PySem.W.nsIn K mainGlobals "is_attr" = some (some (.ref (He.ga K "is_attr"))))
def q_a8 : FB := fun K => decide (PySem.W.nsIn K mainGlobals "is_simple_name" = some (some (.ref (He.ga K "is_simple_name"))))
def q_a9 : FB := fun K => decide (PySem.W.nsIn K mainGlobals "sum_of" = some (some (.ref (He.ga K "sum_of"))))
def q_a10 : FB := fun K => decide (PySem.W.nsIn K mainGlobals "write_four" = some (some (.ref (He.ga K "write_four"))))
def q_a11 : FB := fun K => decide (PySem.W.nsIn K mainGlobals "write_name" = some (some (.ref (He.ga K "write_name"))))
def q_a12 : FB := fun K => decide (PySem.W.nsIn K mainGlobals "encode_root" = some (some (.ref (He.ga K "encode_root"))))
def q_a13 : FB := fun K => decide (PySem.W.nsIn K mainGlobals "write_shape" = some (some (.ref (He.ga K "write_shape"))))
def q_a14 : FB := fun K => decide (PySem.W.nsIn K mainGlobals "write_chunks" = some (some (.ref (He.ga K "write_chunks"))))
def q_a15 : FB := fun K => decide (PySem.W.nsIn K mainGlobals "decode_root" = some (some (.ref (He.ga K "decode_root"))))
def q_a16 : FB := fun K => decide (PySem.W.nsIn K mainGlobals "read_arrays" = some (some (.ref (He.ga K "read_arrays"))))
def q_a17 : FB := fun K => decide (PySem.W.nsIn K mainGlobals "read_name" = some (some (.ref (He.ga K "read_name"))))
def q_a18 : FB := fun K => decide (PySem.W.nsIn K mainGlobals "read_shape" = some (some (.ref (He.ga K "read_shape"))))
def q_a19 : FB := fun K => decide (PySem.W.nsIn K mainGlobals "read_dim" = some (some (.ref (He.ga K "read_dim"))))
def q_a20 : FB := fun K => decide (PySem.W.nsIn K mainGlobals "read_attr" = some (some (.ref (He.ga K "read_attr"))))
def q_a21 : FB := fun K => decide (PySem.W.nsIn K mainGlobals "read_chunks" = some (some (.ref (He.ga K "read_chunks"))))
def q_a22 : FB := fun K => decide (PySem.W.nsIn K mainGlobals "data_file" = some (some (.ref (He.ga K "data_file"))))
def q_a23 : FB := fun K => decide (PySem.W.nsIn K mainGlobals "root_on" = some (some (.ref (He.ga K "root_on"))))
def q_a24 : FB := fun K => decide (PySem.W.nsIn K mainGlobals "records_by_version" = some (some (.ref (He.ga K "records_by_version"))))
def q_a25 : FB := fun K => decide (PySem.W.nsIn K mainGlobals "change_names" = some (some (.ref (He.ga K "change_names"))))
def q_a26 : FB := fun K => decide (PySem.W.nsIn K mainGlobals "octets_left" = some (some (.ref (He.ga K "octets_left"))))
def q_a27 : FB := fun K => decide (PySem.W.nsIn K mainGlobals "_law_draw" = some (some (.ref (He.ga K "_law_draw"))))
def q_a28 : FB := fun K => decide (PySem.W.nsIn K mainGlobals "_law_shape" = some (some (.ref (He.ga K "_law_shape"))))
def q_a29 : FB := fun K => decide (PySem.W.nsIn K mainGlobals "_law_chunks" = some (some (.ref (He.ga K "_law_chunks"))))
def q_a30 : FB := fun K => decide (PySem.W.nsIn K mainGlobals "_law_arrays" = some (some (.ref (He.ga K "_law_arrays"))))
def q_a31 : FB := fun K => decide (PySem.W.nsIn K mainGlobals "_law_same" = some (some (.ref (He.ga K "_law_same"))))
def q_a32 : FB := fun K => decide (PySem.W.nsIn K mainGlobals "_law_refused" = some (some (.ref (He.ga K "_law_refused"))))
def q_a33 : FB := fun K => decide (PySem.W.nsIn K mainGlobals "law" = some (some (.ref (He.ga K "law"))))
def q_z1 : FB := fun K => decide (PySem.W.nsIn K mainGlobals "range" = some none)
def q_z2 : FB := fun K => decide (PySem.W.nsIn K mainGlobals "int" = some none)
def q_z3 : FB := fun K => decide (PySem.W.nsIn K mainGlobals "len" = some none)
def q_z4 : FB := fun K => decide (PySem.W.nsIn K mainGlobals "isinstance" = some none)
def q_z5 : FB := fun K => decide (PySem.W.nsIn K mainGlobals "bool" = some none)
def q_z6 : FB := fun K => decide (PySem.W.nsIn K mainGlobals "str" = some none)
def q_z7 : FB := fun K => decide (PySem.W.nsIn K mainGlobals "min" = some none)
def q_z8 : FB := fun K => decide (PySem.W.nsIn K mainGlobals "max" = some none)
def q_z9 : FB := fun K => decide (PySem.W.nsIn K mainGlobals "sum" = some none)
def q_z10 : FB := fun K => decide (PySem.W.nsIn K mainGlobals "abs" = some none)
def q_z11 : FB := fun K => decide (PySem.W.nsIn K mainGlobals "enumerate" = some none)
def q_z12 : FB := fun K => decide (PySem.W.nsIn K mainGlobals "tuple" = some none)
def q_z13 : FB := fun K => decide (PySem.W.nsIn K mainGlobals "list" = some none)
def q_z14 : FB := fun K => decide (PySem.W.nsIn K mainGlobals "sorted" = some none)
def q_z15 : FB := fun K => decide (PySem.W.nsIn K mainGlobals "zip" = some none)
def q_z16 : FB := fun K => decide (PySem.W.nsIn K mainGlobals "reversed" = some none)
def q_z17 : FB := fun K => decide (PySem.W.nsIn K mainGlobals "dict" = some none)
def q_z18 : FB := fun K => decide (PySem.W.nsIn K mainGlobals "ValueError" = some none)
def q_z19 : FB := fun K => decide (PySem.W.nsIn K mainGlobals "all" = some none)
def q_z20 : FB := fun K => decide (PySem.W.nsIn K mainGlobals "ord" = some none)
def q_g1 : FB := gintB "SUM_MODULUS" 65521
def q_g2 : FB := gintB "LIFT" 2147483648
def q_g3 : FB := gintB "GREATEST_NUMBER" 4294967295
def q_g4 : FB := gintB "LINE_FEED" 10
def q_g5 : FB := gintB "SPACE" 32
def q_g6 : FB := gintB "PERCENT_SIGN" 37
def q_g7 : FB := gintB "TILDE" 126
def q_g8 : FB := gstrB "CHARACTERS" CHS2
def q_g9 : FB := gstrB "NAME_CHARACTERS" NCH
def q_g10 : FB := gstrB "DIGITS" DIG
def q_g11 : FB := gintB "LONGEST_NAME" 30
def q_g12 : FB := gintB "MOST_DIMS" 6
def q_g13 : FB := gintB "MOST_ATTRS" 16
def q_g14 : FB := gintB "FURTHEST" 1000000
def q_g15 : FB := gintB "LONGEST_STEP" 1000000
def q_g16 : FB := gstrB "DATA_PREFIX" "data."
def q_g17 : FB := gstrB "ROOT_FILE" "root"
def q_g18 : FB := gstrB "NEW_ROOT_FILE" "root.new"
def q_g19 : FB := gintB "SUM_LENGTH" 4
def q_eKK : FB := fun K => decide (PySem.W.nsIn K mainGlobals "KINDS" = some (some (.ref (He.ga K "KINDS"))))
def q_lKK : FB := tupB "KINDS" [.str "int", .str "flag", .str "text"]
def q_eFF : FB := fun K => decide (PySem.W.nsIn K mainGlobals "FIRST_OCTETS" = some (some (.ref (He.ga K "FIRST_OCTETS"))))
def q_lFF : FB := tupB "FIRST_OCTETS" [.int 77, .int 83]
def q_xOe : FB := fun K => decide (PySem.W.nsIn K mainGlobals "OctetReader" = some (some (.ref (He.ga K "OctetReader"))))
def q_xO1 : FB := fun K => decide (PySem.W.makesIn K (He.ga K "OctetReader") = true)
def q_xO2 : FB := fun K => decide (PySem.W.findIn K (.ref (He.ga K "OctetReader")) "__init__" = some (some (.ref (He.ma K (He.ga K "OctetReader") "__init__"))))
def q_xO3 : FB := fun K => decide (PySem.W.isFn K (.ref (He.ma K (He.ga K "OctetReader") "__init__")) = true)
def q_xO4 : FB := fun K => decide (PySem.W.keepIn K (.ref (He.ga K "OctetReader")) = true)
def q_xO5 : FB := fun K => decide (PySem.W.plainGet K (He.ga K "OctetReader") Str.empty = true)
def q_xO6 : FB := fun K => decide (PySem.W.hasDictIn K (He.ga K "OctetReader") = true)
def q_xO7 : FB := fun K => decide (PySem.W.plainOver K (He.ga K "OctetReader") = true)
def q_xO8 : FB := fun K => decide (PySem.W.findIn K (.ref (He.ga K "OctetReader")) "__setattr__" = some (some (.builtin "object.__setattr__")))
def q_xOn0 : FB := fun K => decide (PySem.W.findIn K (.ref (He.ga K "OctetReader")) "octets" = some none)
def q_xOn1 : FB := fun K => decide (PySem.W.findIn K (.ref (He.ga K "OctetReader")) "at" = some none)
def q_xSe : FB := fun K => decide (PySem.W.nsIn K mainGlobals "Shape" = some (some (.ref (He.ga K "Shape"))))
def q_xS1 : FB := fun K => decide (PySem.W.makesIn K (He.ga K "Shape") = true)
def q_xS2 : FB := fun K => decide (PySem.W.findIn K (.ref (He.ga K "Shape")) "__init__" = some (some (.ref (He.ma K (He.ga K "Shape") "__init__"))))
def q_xS3 : FB := fun K => decide (PySem.W.isFn K (.ref (He.ma K (He.ga K "Shape") "__init__")) = true)
def q_xS4 : FB := fun K => decide (PySem.W.keepIn K (.ref (He.ga K "Shape")) = true)
def q_xS5 : FB := fun K => decide (PySem.W.plainGet K (He.ga K "Shape") Str.empty = true)
def q_xS6 : FB := fun K => decide (PySem.W.hasDictIn K (He.ga K "Shape") = true)
def q_xS7 : FB := fun K => decide (PySem.W.plainOver K (He.ga K "Shape") = true)
def q_xS8 : FB := fun K => decide (PySem.W.findIn K (.ref (He.ga K "Shape")) "__setattr__" = some (some (.builtin "object.__setattr__")))
def q_xSn0 : FB := fun K => decide (PySem.W.findIn K (.ref (He.ga K "Shape")) "dims" = some none)
def q_xSn1 : FB := fun K => decide (PySem.W.findIn K (.ref (He.ga K "Shape")) "attrs" = some none)
def q_xRe : FB := fun K => decide (PySem.W.nsIn K mainGlobals "Root" = some (some (.ref (He.ga K "Root"))))
def q_xR1 : FB := fun K => decide (PySem.W.makesIn K (He.ga K "Root") = true)
def q_xR2 : FB := fun K => decide (PySem.W.findIn K (.ref (He.ga K "Root")) "__init__" = some (some (.ref (He.ma K (He.ga K "Root") "__init__"))))
def q_xR3 : FB := fun K => decide (PySem.W.isFn K (.ref (He.ma K (He.ga K "Root") "__init__")) = true)
def q_xR4 : FB := fun K => decide (PySem.W.keepIn K (.ref (He.ga K "Root")) = true)
def q_xR5 : FB := fun K => decide (PySem.W.plainGet K (He.ga K "Root") Str.empty = true)
def q_xR6 : FB := fun K => decide (PySem.W.hasDictIn K (He.ga K "Root") = true)
def q_xR7 : FB := fun K => decide (PySem.W.plainOver K (He.ga K "Root") = true)
def q_xR8 : FB := fun K => decide (PySem.W.findIn K (.ref (He.ga K "Root")) "__setattr__" = some (some (.builtin "object.__setattr__")))
def q_xRn0 : FB := fun K => decide (PySem.W.findIn K (.ref (He.ga K "Root")) "upcoming" = some none)
def q_xRn1 : FB := fun K => decide (PySem.W.findIn K (.ref (He.ga K "Root")) "data" = some none)
def q_xRn2 : FB := fun K => decide (PySem.W.findIn K (.ref (He.ga K "Root")) "versions" = some none)
def q_xCce : FB := fun K => decide (PySem.W.nsIn K mainGlobals "Content" = some (some (.ref (He.ga K "Content"))))
def q_xCc1 : FB := fun K => decide (PySem.W.makesIn K (He.ga K "Content") = true)
def q_xCc2 : FB := fun K => decide (PySem.W.findIn K (.ref (He.ga K "Content")) "__init__" = some (some (.ref (He.ma K (He.ga K "Content") "__init__"))))
def q_xCc3 : FB := fun K => decide (PySem.W.isFn K (.ref (He.ma K (He.ga K "Content") "__init__")) = true)
def q_xCc4 : FB := fun K => decide (PySem.W.keepIn K (.ref (He.ga K "Content")) = true)
def q_xCc5 : FB := fun K => decide (PySem.W.plainGet K (He.ga K "Content") Str.empty = true)
def q_xCc6 : FB := fun K => decide (PySem.W.hasDictIn K (He.ga K "Content") = true)
def q_xCc7 : FB := fun K => decide (PySem.W.plainOver K (He.ga K "Content") = true)
def q_xCc8 : FB := fun K => decide (PySem.W.findIn K (.ref (He.ga K "Content")) "__setattr__" = some (some (.builtin "object.__setattr__")))
def q_xCcn0 : FB := fun K => decide (PySem.W.findIn K (.ref (He.ga K "Content")) "octets" = some none)
def q_xCcn1 : FB := fun K => decide (PySem.W.findIn K (.ref (He.ga K "Content")) "sure" = some none)
def q_xChe : FB := fun K => decide (PySem.W.nsIn K mainGlobals "Choices" = some (some (.ref (He.ga K "Choices"))))
def q_xCh1 : FB := fun K => decide (PySem.W.makesIn K (He.ga K "Choices") = true)
def q_xCh2 : FB := fun K => decide (PySem.W.findIn K (.ref (He.ga K "Choices")) "__init__" = some (some (.ref (He.ma K (He.ga K "Choices") "__init__"))))
def q_xCh3 : FB := fun K => decide (PySem.W.isFn K (.ref (He.ma K (He.ga K "Choices") "__init__")) = true)
def q_xCh4 : FB := fun K => decide (PySem.W.keepIn K (.ref (He.ga K "Choices")) = true)
def q_xCh5 : FB := fun K => decide (PySem.W.plainGet K (He.ga K "Choices") Str.empty = true)
def q_xCh6 : FB := fun K => decide (PySem.W.hasDictIn K (He.ga K "Choices") = true)
def q_xCh7 : FB := fun K => decide (PySem.W.plainOver K (He.ga K "Choices") = true)
def q_xCh8 : FB := fun K => decide (PySem.W.findIn K (.ref (He.ga K "Choices")) "__setattr__" = some (some (.builtin "object.__setattr__")))
def q_xChn0 : FB := fun K => decide (PySem.W.findIn K (.ref (He.ga K "Choices")) "rest" = some none)
def q_xDke : FB := fun K => decide (PySem.W.nsIn K mainGlobals "Disk" = some (some (.ref (He.ga K "Disk"))))
def q_xDk1 : FB := fun K => decide (PySem.W.makesIn K (He.ga K "Disk") = true)
def q_xDk2 : FB := fun K => decide (PySem.W.findIn K (.ref (He.ga K "Disk")) "__init__" = some (some (.ref (He.ma K (He.ga K "Disk") "__init__"))))
def q_xDk3 : FB := fun K => decide (PySem.W.isFn K (.ref (He.ma K (He.ga K "Disk") "__init__")) = true)
def q_xDk4 : FB := fun K => decide (PySem.W.keepIn K (.ref (He.ga K "Disk")) = true)
def q_xDk5 : FB := fun K => decide (PySem.W.plainGet K (He.ga K "Disk") Str.empty = true)
def q_xDk6 : FB := fun K => decide (PySem.W.hasDictIn K (He.ga K "Disk") = true)
def q_xDk7 : FB := fun K => decide (PySem.W.plainOver K (He.ga K "Disk") = true)
def q_xDk8 : FB := fun K => decide (PySem.W.findIn K (.ref (He.ga K "Disk")) "__setattr__" = some (some (.builtin "object.__setattr__")))
def q_xDkn0 : FB := fun K => decide (PySem.W.findIn K (.ref (He.ga K "Disk")) "_contents" = some none)
def q_xDkn1 : FB := fun K => decide (PySem.W.findIn K (.ref (He.ga K "Disk")) "_sure_contents" = some none)
def q_xDkn2 : FB := fun K => decide (PySem.W.findIn K (.ref (He.ga K "Disk")) "_changes" = some none)
def q_xDkn3 : FB := fun K => decide (PySem.W.findIn K (.ref (He.ga K "Disk")) "_allowed" = some none)
def q_xDkn4 : FB := fun K => decide (PySem.W.findIn K (.ref (He.ga K "Disk")) "_done" = some none)
def q_xSte : FB := fun K => decide (PySem.W.nsIn K mainGlobals "Store" = some (some (.ref (He.ga K "Store"))))
def q_xSt1 : FB := fun K => decide (PySem.W.makesIn K (He.ga K "Store") = true)
def q_xSt2 : FB := fun K => decide (PySem.W.findIn K (.ref (He.ga K "Store")) "__init__" = some (some (.ref (He.ma K (He.ga K "Store") "__init__"))))
def q_xSt3 : FB := fun K => decide (PySem.W.isFn K (.ref (He.ma K (He.ga K "Store") "__init__")) = true)
def q_xSt4 : FB := fun K => decide (PySem.W.keepIn K (.ref (He.ga K "Store")) = true)
def q_xSt5 : FB := fun K => decide (PySem.W.plainGet K (He.ga K "Store") Str.empty = true)
def q_xSt6 : FB := fun K => decide (PySem.W.hasDictIn K (He.ga K "Store") = true)
def q_xSt7 : FB := fun K => decide (PySem.W.plainOver K (He.ga K "Store") = true)
def q_xSt8 : FB := fun K => decide (PySem.W.findIn K (.ref (He.ga K "Store")) "__setattr__" = some (some (.builtin "object.__setattr__")))
def q_xStn0 : FB := fun K => decide (PySem.W.findIn K (.ref (He.ga K "Store")) "disk" = some none)
def q_xStn1 : FB := fun K => decide (PySem.W.findIn K (.ref (He.ga K "Store")) "_root" = some none)
def q_xStn2 : FB := fun K => decide (PySem.W.findIn K (.ref (He.ga K "Store")) "_versions" = some none)
def q_hn : FB := fun K => decide (PySem.W.specialIn K (.builtin "object.__class__") "__get__" = some (some (.builtin "getset_descriptor.__get__")))
def q_ht : FB := fun K => decide (PySem.W.takesIn K (.builtin "object.__class__") = some true)
def q_eM : FB := fun K => decide (PySem.W.nsIn K mainGlobals "ManysidesError" = some (some (.ref (He.ga K "ManysidesError"))))
def q_eC1 : FB := fun K => decide (PySem.W.nsIn K mainGlobals "PowerLost" = some (some (.ref (He.ga K "PowerLost"))))
def q_xL1 : FB := excB "PowerLost" "ManysidesError"
def q_sa1 : FB := fun K => decide (PySem.W.findIn K (.ref (He.ga K "PowerLost")) "__setattr__" = some (some (.builtin "object.__setattr__")))
def q_ga1 : FB := fun K => decide (PySem.W.findIn K (.ref (He.ga K "PowerLost")) "__getattribute__" = some (some (.builtin "BaseException.__getattribute__")))
def q_gg1 : FB := fun K => decide (PySem.W.findIn K (.ref (He.ga K "PowerLost")) "__getattr__" = some none)
def q_hs1 : FB := fun K => decide (PySem.W.subIn K (.ref (He.ga K "PowerLost")) (.type "BaseException") = some true)
def q_hd1 : FB := fun K => decide (PySem.W.hasDictIn K (He.ga K "PowerLost") = true)
def q_ha1 : FB := fun K => decide (PySem.W.findIn K (.ref (He.ga K "PowerLost")) "__class__" = some (some (.builtin "object.__class__")))
def q_hm1 : FB := fun K => decide (PySem.W.mroIn K (He.ga K "PowerLost") (.type "object") = some true)
def q_tyC1 : FB := fun K => decide (PySem.W.typeIn K (.ref (He.ga K "PowerLost")) = some (.type "type"))
def q_kC1 : FB := fun K => decide (PySem.W.keepIn K (.ref (He.ga K "PowerLost")) = true)
def q_rd1 : FB := fun K => decide (PySem.W.readsIn K (He.ga K "PowerLost") (.type "type") = true)
def q_fc1 : FB := nameB "PowerLost"
def q_noP1 : FB := fun K => decide (PySem.W.findIn K (.ref (He.ga K "PowerLost")) "place" = some none)
def q_noN1 : FB := fun K => decide (PySem.W.findIn K (.ref (He.ga K "PowerLost")) "name" = some none)
def q_iC1 : FB := fun K => decide (PySem.W.findIn K (.ref (He.ga K "PowerLost")) "__init__" = some (some (.ref (He.ma K (He.ga K "ManysidesError") "__init__"))))
def q_sCC1 : FB := fun K => decide (PySem.W.subIn K (.ref (He.ga K "PowerLost")) (.ref (He.ga K "PowerLost")) = some true)
def q_eC2 : FB := fun K => decide (PySem.W.nsIn K mainGlobals "InvalidVersion" = some (some (.ref (He.ga K "InvalidVersion"))))
def q_xL2 : FB := excB "InvalidVersion" "ManysidesError"
def q_sa2 : FB := fun K => decide (PySem.W.findIn K (.ref (He.ga K "InvalidVersion")) "__setattr__" = some (some (.builtin "object.__setattr__")))
def q_ga2 : FB := fun K => decide (PySem.W.findIn K (.ref (He.ga K "InvalidVersion")) "__getattribute__" = some (some (.builtin "BaseException.__getattribute__")))
def q_gg2 : FB := fun K => decide (PySem.W.findIn K (.ref (He.ga K "InvalidVersion")) "__getattr__" = some none)
def q_hs2 : FB := fun K => decide (PySem.W.subIn K (.ref (He.ga K "InvalidVersion")) (.type "BaseException") = some true)
def q_hd2 : FB := fun K => decide (PySem.W.hasDictIn K (He.ga K "InvalidVersion") = true)
def q_ha2 : FB := fun K => decide (PySem.W.findIn K (.ref (He.ga K "InvalidVersion")) "__class__" = some (some (.builtin "object.__class__")))
def q_hm2 : FB := fun K => decide (PySem.W.mroIn K (He.ga K "InvalidVersion") (.type "object") = some true)
def q_tyC2 : FB := fun K => decide (PySem.W.typeIn K (.ref (He.ga K "InvalidVersion")) = some (.type "type"))
def q_kC2 : FB := fun K => decide (PySem.W.keepIn K (.ref (He.ga K "InvalidVersion")) = true)
def q_rd2 : FB := fun K => decide (PySem.W.readsIn K (He.ga K "InvalidVersion") (.type "type") = true)
def q_fc2 : FB := nameB "InvalidVersion"
def q_noP2 : FB := fun K => decide (PySem.W.findIn K (.ref (He.ga K "InvalidVersion")) "place" = some none)
def q_noN2 : FB := fun K => decide (PySem.W.findIn K (.ref (He.ga K "InvalidVersion")) "name" = some none)
def q_iC2 : FB := fun K => decide (PySem.W.findIn K (.ref (He.ga K "InvalidVersion")) "__init__" = some (some (.ref (He.ma K (He.ga K "ManysidesError") "__init__"))))
def q_sCC2 : FB := fun K => decide (PySem.W.subIn K (.ref (He.ga K "InvalidVersion")) (.ref (He.ga K "InvalidVersion")) = some true)
def q_mOe : FB := fun K => decide (PySem.W.findIn K (.ref (He.ga K "OctetReader")) "is_at_end" = some (some (.ref (He.ma K (He.ga K "OctetReader") "is_at_end"))))
def q_hOe : FB := fun K => decide (PySem.W.isFn K (.ref (He.ma K (He.ga K "OctetReader") "is_at_end")) = true)
def q_mOn : FB := fun K => decide (PySem.W.findIn K (.ref (He.ga K "OctetReader")) "next_octets" = some (some (.ref (He.ma K (He.ga K "OctetReader") "next_octets"))))
def q_hOn : FB := fun K => decide (PySem.W.isFn K (.ref (He.ma K (He.ga K "OctetReader") "next_octets")) = true)
def q_mOo : FB := fun K => decide (PySem.W.findIn K (.ref (He.ga K "OctetReader")) "next_octet_of" = some (some (.ref (He.ma K (He.ga K "OctetReader") "next_octet_of"))))
def q_hOo : FB := fun K => decide (PySem.W.isFn K (.ref (He.ma K (He.ga K "OctetReader") "next_octet_of")) = true)
def q_mO4 : FB := fun K => decide (PySem.W.findIn K (.ref (He.ga K "OctetReader")) "next_four" = some (some (.ref (He.ma K (He.ga K "OctetReader") "next_four"))))
def q_hO4 : FB := fun K => decide (PySem.W.isFn K (.ref (He.ma K (He.ga K "OctetReader") "next_four")) = true)
def q_mOi : FB := fun K => decide (PySem.W.findIn K (.ref (He.ga K "OctetReader")) "next_four_in" = some (some (.ref (He.ma K (He.ga K "OctetReader") "next_four_in"))))
def q_hOi : FB := fun K => decide (PySem.W.isFn K (.ref (He.ma K (He.ga K "OctetReader") "next_four_in")) = true)
def q_mSE : FB := fun K => decide (PySem.W.findIn K (.ref (He.ga K "Shape")) "__eq__" = some (some (.ref (He.ma K (He.ga K "Shape") "__eq__"))))
def q_hSE : FB := fun K => decide (PySem.W.isFn K (.ref (He.ma K (He.ga K "Shape") "__eq__")) = true)
def q_mNb : FB := fun K => decide (PySem.W.findIn K (.ref (He.ga K "Choices")) "next_below" = some (some (.ref (He.ma K (He.ga K "Choices") "next_below"))))
def q_hNb : FB := fun K => decide (PySem.W.isFn K (.ref (He.ma K (He.ga K "Choices") "next_below")) = true)
def q_mDn : FB := fun K => decide (PySem.W.findIn K (.ref (He.ga K "Disk")) "names" = some (some (.ref (He.ma K (He.ga K "Disk") "names"))))
def q_hDn : FB := fun K => decide (PySem.W.isFn K (.ref (He.ma K (He.ga K "Disk") "names")) = true)
def q_mDs : FB := fun K => decide (PySem.W.findIn K (.ref (He.ga K "Disk")) "size" = some (some (.ref (He.ma K (He.ga K "Disk") "size"))))
def q_hDs : FB := fun K => decide (PySem.W.isFn K (.ref (He.ma K (He.ga K "Disk") "size")) = true)
def q_mDr : FB := fun K => decide (PySem.W.findIn K (.ref (He.ga K "Disk")) "read" = some (some (.ref (He.ma K (He.ga K "Disk") "read"))))
def q_hDr : FB := fun K => decide (PySem.W.isFn K (.ref (He.ma K (He.ga K "Disk") "read")) = true)
def q_mDa : FB := fun K => decide (PySem.W.findIn K (.ref (He.ga K "Disk")) "append" = some (some (.ref (He.ma K (He.ga K "Disk") "append"))))
def q_hDa : FB := fun K => decide (PySem.W.isFn K (.ref (He.ma K (He.ga K "Disk") "append")) = true)
def q_mDy : FB := fun K => decide (PySem.W.findIn K (.ref (He.ga K "Disk")) "sync" = some (some (.ref (He.ma K (He.ga K "Disk") "sync"))))
def q_hDy : FB := fun K => decide (PySem.W.isFn K (.ref (He.ma K (He.ga K "Disk") "sync")) = true)
def q_mDe : FB := fun K => decide (PySem.W.findIn K (.ref (He.ga K "Disk")) "rename" = some (some (.ref (He.ma K (He.ga K "Disk") "rename"))))
def q_hDe : FB := fun K => decide (PySem.W.isFn K (.ref (He.ma K (He.ga K "Disk") "rename")) = true)
def q_mDz : FB := fun K => decide (PySem.W.findIn K (.ref (He.ga K "Disk")) "sync_names" = some (some (.ref (He.ma K (He.ga K "Disk") "sync_names"))))
def q_hDz : FB := fun K => decide (PySem.W.isFn K (.ref (He.ma K (He.ga K "Disk") "sync_names")) = true)
def q_mDo : FB := fun K => decide (PySem.W.findIn K (.ref (He.ga K "Disk")) "lose" = some (some (.ref (He.ma K (He.ga K "Disk") "lose"))))
def q_hDo : FB := fun K => decide (PySem.W.isFn K (.ref (He.ma K (He.ga K "Disk") "lose")) = true)
def q_mDb : FB := fun K => decide (PySem.W.findIn K (.ref (He.ga K "Disk")) "_begin_deed" = some (some (.ref (He.ma K (He.ga K "Disk") "_begin_deed"))))
def q_hDb : FB := fun K => decide (PySem.W.isFn K (.ref (He.ma K (He.ga K "Disk") "_begin_deed")) = true)
def q_mDc : FB := fun K => decide (PySem.W.findIn K (.ref (He.ga K "Disk")) "_change" = some (some (.ref (He.ma K (He.ga K "Disk") "_change"))))
def q_hDc : FB := fun K => decide (PySem.W.isFn K (.ref (He.ma K (He.ga K "Disk") "_change")) = true)
def q_mDh : FB := fun K => decide (PySem.W.findIn K (.ref (He.ga K "Disk")) "_hold" = some (some (.ref (He.ma K (He.ga K "Disk") "_hold"))))
def q_hDh : FB := fun K => decide (PySem.W.isFn K (.ref (He.ma K (He.ga K "Disk") "_hold")) = true)
def q_mSr : FB := fun K => decide (PySem.W.findIn K (.ref (He.ga K "Store")) "root" = some (some (.ref (He.ma K (He.ga K "Store") "root"))))
def q_hSr : FB := fun K => decide (PySem.W.isFn K (.ref (He.ma K (He.ga K "Store") "root")) = true)
def q_mSd : FB := fun K => decide (PySem.W.findIn K (.ref (He.ga K "Store")) "data_name" = some (some (.ref (He.ma K (He.ga K "Store") "data_name"))))
def q_hSd : FB := fun K => decide (PySem.W.isFn K (.ref (He.ma K (He.ga K "Store") "data_name")) = true)
def q_mSz : FB := fun K => decide (PySem.W.findIn K (.ref (He.ga K "Store")) "data_size" = some (some (.ref (He.ma K (He.ga K "Store") "data_size"))))
def q_hSz : FB := fun K => decide (PySem.W.isFn K (.ref (He.ma K (He.ga K "Store") "data_size")) = true)
def q_mSo : FB := fun K => decide (PySem.W.findIn K (.ref (He.ga K "Store")) "standing_octets" = some (some (.ref (He.ma K (He.ga K "Store") "standing_octets"))))
def q_hSo : FB := fun K => decide (PySem.W.isFn K (.ref (He.ma K (He.ga K "Store") "standing_octets")) = true)
def q_mSu : FB := fun K => decide (PySem.W.findIn K (.ref (He.ga K "Store")) "sound_octets" = some (some (.ref (He.ma K (He.ga K "Store") "sound_octets"))))
def q_hSu : FB := fun K => decide (PySem.W.isFn K (.ref (He.ma K (He.ga K "Store") "sound_octets")) = true)
def q_mSa : FB := fun K => decide (PySem.W.findIn K (.ref (He.ga K "Store")) "_arrays_of" = some (some (.ref (He.ma K (He.ga K "Store") "_arrays_of"))))
def q_hSa : FB := fun K => decide (PySem.W.isFn K (.ref (He.ma K (He.ga K "Store") "_arrays_of")) = true)
def q_mSv : FB := fun K => decide (PySem.W.findIn K (.ref (He.ga K "Store")) "versions" = some (some (.ref (He.ma K (He.ga K "Store") "versions"))))
def q_hSv : FB := fun K => decide (PySem.W.isFn K (.ref (He.ma K (He.ga K "Store") "versions")) = true)
def q_mSl : FB := fun K => decide (PySem.W.findIn K (.ref (He.ga K "Store")) "latest" = some (some (.ref (He.ma K (He.ga K "Store") "latest"))))
def q_hSl : FB := fun K => decide (PySem.W.isFn K (.ref (He.ma K (He.ga K "Store") "latest")) = true)
def q_mSy : FB := fun K => decide (PySem.W.findIn K (.ref (He.ga K "Store")) "arrays" = some (some (.ref (He.ma K (He.ga K "Store") "arrays"))))
def q_hSy : FB := fun K => decide (PySem.W.isFn K (.ref (He.ma K (He.ga K "Store") "arrays")) = true)
def q_mSh : FB := fun K => decide (PySem.W.findIn K (.ref (He.ga K "Store")) "shape" = some (some (.ref (He.ma K (He.ga K "Store") "shape"))))
def q_hSh : FB := fun K => decide (PySem.W.isFn K (.ref (He.ma K (He.ga K "Store") "shape")) = true)
def q_mSk : FB := fun K => decide (PySem.W.findIn K (.ref (He.ga K "Store")) "chunks" = some (some (.ref (He.ma K (He.ga K "Store") "chunks"))))
def q_hSk : FB := fun K => decide (PySem.W.isFn K (.ref (He.ma K (He.ga K "Store") "chunks")) = true)
def q_mSc : FB := fun K => decide (PySem.W.findIn K (.ref (He.ga K "Store")) "chunk" = some (some (.ref (He.ma K (He.ga K "Store") "chunk"))))
def q_hSc : FB := fun K => decide (PySem.W.isFn K (.ref (He.ma K (He.ga K "Store") "chunk")) = true)
def q_mSp : FB := fun K => decide (PySem.W.findIn K (.ref (He.ga K "Store")) "_append_record" = some (some (.ref (He.ma K (He.ga K "Store") "_append_record"))))
def q_hSp : FB := fun K => decide (PySem.W.isFn K (.ref (He.ma K (He.ga K "Store") "_append_record")) = true)
def q_mSg : FB := fun K => decide (PySem.W.findIn K (.ref (He.ga K "Store")) "_record_again" = some (some (.ref (He.ma K (He.ga K "Store") "_record_again"))))
def q_hSg : FB := fun K => decide (PySem.W.isFn K (.ref (He.ma K (He.ga K "Store") "_record_again")) = true)
def q_mSx : FB := fun K => decide (PySem.W.findIn K (.ref (He.ga K "Store")) "_take_root" = some (some (.ref (He.ma K (He.ga K "Store") "_take_root"))))
def q_hSx : FB := fun K => decide (PySem.W.isFn K (.ref (He.ma K (He.ga K "Store") "_take_root")) = true)
def q_mSw : FB := fun K => decide (PySem.W.findIn K (.ref (He.ga K "Store")) "write_root" = some (some (.ref (He.ma K (He.ga K "Store") "write_root"))))
def q_hSw : FB := fun K => decide (PySem.W.isFn K (.ref (He.ma K (He.ga K "Store") "write_root")) = true)
def q_mSq : FB := fun K => decide (PySem.W.findIn K (.ref (He.ga K "Store")) "put" = some (some (.ref (He.ma K (He.ga K "Store") "put"))))
def q_hSq : FB := fun K => decide (PySem.W.isFn K (.ref (He.ma K (He.ga K "Store") "put")) = true)
def q_qS1 : FB := fun K => decide (PySem.W.notFirst K (He.ga K "Shape") (.ref (He.ga K "Shape")) = true)
def q_qS2 : FB := fun K => decide (PySem.W.notFirst K (He.ga K "Shape") (.type "tuple") = true)
def q_qS3 : FB := fun K => decide (PySem.W.findIn K (.ref (He.ga K "Shape")) "__class__" = some (some (.builtin "object.__class__")))
def q_qS4 : FB := fun K => decide (PySem.W.mroIn K (He.ga K "Shape") (.type "object") = some true)
def q_qS5 : FB := fun K => decide (PySem.W.kitOne K (.ref (He.ga K "Shape")) (.ref (He.ga K "Shape")) = some true)
def q_qS6 : FB := fun K => decide (PySem.W.kitOne K (.type "tuple") (.ref (He.ga K "Shape")) = some false)
def q_nq1 : FB := fun K => decide (((He.ga K "Disk") == (He.ga K "Root")) = false)
def q_nq2 : FB := fun K => decide (((He.ga K "Disk") == (He.ga K "Shape")) = false)
def q_nq3 : FB := fun K => decide (((He.ga K "Content") == (He.ga K "Root")) = false)
def q_nq4 : FB := fun K => decide (((He.ga K "Content") == (He.ga K "Shape")) = false)
def q_nq5 : FB := fun K => decide (((He.ga K "Store") == (He.ga K "Root")) = false)
def q_nq6 : FB := fun K => decide (((He.ga K "Store") == (He.ga K "Shape")) = false)
def q_tIE : FB := fun K => decide (PySem.W.typeIn K (.ref (He.ma K (He.ga K "ManysidesError") "__init__")) = some (.type "function"))
def dn0 : He.FnD := ⟨("encode_text", none), "encode_text", "encode_text", defArgs sEncodeText, defBody sEncodeText, defScope sEncodeText⟩
def dn1 : He.FnD := ⟨("decode_text", none), "decode_text", "decode_text", defArgs sDecodeText, defBody sDecodeText, defScope sDecodeText⟩
def dn2 : He.FnD := ⟨("is_code", none), "is_code", "is_code", defArgs sIsCode, defBody sIsCode, defScope sIsCode⟩
def dn3 : He.FnD := ⟨("character_of", none), "character_of", "character_of", defArgs sCharacterOf, defBody sCharacterOf, defScope sCharacterOf⟩
def dn4 : He.FnD := ⟨("check_shape", none), "check_shape", "check_shape", defArgs sCheckShape, defBody sCheckShape, defScope sCheckShape⟩
def dn5 : He.FnD := ⟨("is_dim", none), "is_dim", "is_dim", defArgs sIsDim, defBody sIsDim, defScope sIsDim⟩
def dn6 : He.FnD := ⟨("is_attr", none), "is_attr", "is_attr", defArgs sIsAttr, defBody sIsAttr, defScope sIsAttr⟩
def dn7 : He.FnD := ⟨("is_simple_name", none), "is_simple_name", "is_simple_name", defArgs sIsSimpleName, defBody sIsSimpleName, defScope sIsSimpleName⟩
def dn8 : He.FnD := ⟨("sum_of", none), "sum_of", "sum_of", defArgs sSumOf, defBody sSumOf, defScope sSumOf⟩
def dn9 : He.FnD := ⟨("write_four", none), "write_four", "write_four", defArgs sWriteFour, defBody sWriteFour, defScope sWriteFour⟩
def dn10 : He.FnD := ⟨("write_name", none), "write_name", "write_name", defArgs sWriteName, defBody sWriteName, defScope sWriteName⟩
def dn11 : He.FnD := ⟨("encode_root", none), "encode_root", "encode_root", defArgs sEncodeRoot, defBody sEncodeRoot, defScope sEncodeRoot⟩
def dn12 : He.FnD := ⟨("write_shape", none), "write_shape", "write_shape", defArgs sWriteShape, defBody sWriteShape, defScope sWriteShape⟩
def dn13 : He.FnD := ⟨("write_chunks", none), "write_chunks", "write_chunks", defArgs sWriteChunks, defBody sWriteChunks, defScope sWriteChunks⟩
def dn14 : He.FnD := ⟨("decode_root", none), "decode_root", "decode_root", defArgs sDecodeRoot, defBody sDecodeRoot, defScope sDecodeRoot⟩
def dn15 : He.FnD := ⟨("read_arrays", none), "read_arrays", "read_arrays", defArgs sReadArrays, defBody sReadArrays, defScope sReadArrays⟩
def dn16 : He.FnD := ⟨("read_name", none), "read_name", "read_name", defArgs sReadName, defBody sReadName, defScope sReadName⟩
def dn17 : He.FnD := ⟨("read_shape", none), "read_shape", "read_shape", defArgs sReadShape, defBody sReadShape, defScope sReadShape⟩
def dn18 : He.FnD := ⟨("read_dim", none), "read_dim", "read_dim", defArgs sReadDim, defBody sReadDim, defScope sReadDim⟩
def dn19 : He.FnD := ⟨("read_attr", none), "read_attr", "read_attr", defArgs sReadAttr, defBody sReadAttr, defScope sReadAttr⟩
def dn20 : He.FnD := ⟨("read_chunks", none), "read_chunks", "read_chunks", defArgs sReadChunks, defBody sReadChunks, defScope sReadChunks⟩
def dn21 : He.FnD := ⟨("data_file", none), "data_file", "data_file", defArgs sDataFile, defBody sDataFile, defScope sDataFile⟩
def dn22 : He.FnD := ⟨("root_on", none), "root_on", "root_on", defArgs sRootOn, defBody sRootOn, defScope sRootOn⟩
def dn23 : He.FnD := ⟨("records_by_version", none), "records_by_version", "records_by_version", defArgs sRecordsByVersion, defBody sRecordsByVersion, defScope sRecordsByVersion⟩
def dn24 : He.FnD := ⟨("change_names", none), "change_names", "change_names", defArgs sChangeNames, defBody sChangeNames, defScope sChangeNames⟩
def dn25 : He.FnD := ⟨("octets_left", none), "octets_left", "octets_left", defArgs sOctetsLeft, defBody sOctetsLeft, defScope sOctetsLeft⟩
def dn26 : He.FnD := ⟨("_law_draw", none), "_law_draw", "_law_draw", defArgs sDraw, defBody sDraw, defScope sDraw⟩
def dn27 : He.FnD := ⟨("_law_shape", none), "_law_shape", "_law_shape", defArgs sShape, defBody sShape, defScope sShape⟩
def dn28 : He.FnD := ⟨("_law_chunks", none), "_law_chunks", "_law_chunks", defArgs sLChunks, defBody sLChunks, defScope sLChunks⟩
def dn29 : He.FnD := ⟨("_law_arrays", none), "_law_arrays", "_law_arrays", defArgs sLArrays, defBody sLArrays, defScope sLArrays⟩
def dn30 : He.FnD := ⟨("_law_same", none), "_law_same", "_law_same", defArgs sLSame, defBody sLSame, defScope sLSame⟩
def dn31 : He.FnD := ⟨("_law_refused", none), "_law_refused", "_law_refused", defArgs sLRefused, defBody sLRefused, defScope sLRefused⟩
def dn32 : He.FnD := ⟨("law", none), "law", "law", defArgs sLaw, defBody sLaw, defScope sLaw⟩
def dn33 : He.FnD := ⟨("OctetReader", some "__init__"), "__init__", "OctetReader.__init__", defArgs sOctetReaderInit, defBody sOctetReaderInit, defScope sOctetReaderInit⟩
def dn34 : He.FnD := ⟨("Shape", some "__init__"), "__init__", "Shape.__init__", defArgs sShInit, defBody sShInit, defScope sShInit⟩
def dn35 : He.FnD := ⟨("Root", some "__init__"), "__init__", "Root.__init__", defArgs sRootInit, defBody sRootInit, defScope sRootInit⟩
def dn36 : He.FnD := ⟨("Content", some "__init__"), "__init__", "Content.__init__", defArgs sContentInit, defBody sContentInit, defScope sContentInit⟩
def dn37 : He.FnD := ⟨("Choices", some "__init__"), "__init__", "Choices.__init__", defArgs sChoicesInit, defBody sChoicesInit, defScope sChoicesInit⟩
def dn38 : He.FnD := ⟨("Disk", some "__init__"), "__init__", "Disk.__init__", defArgs sDiskInit, defBody sDiskInit, defScope sDiskInit⟩
def dn39 : He.FnD := ⟨("Store", some "__init__"), "__init__", "Store.__init__", defArgs sStoreInit, defBody sStoreInit, defScope sStoreInit⟩
def dn40 : He.FnD := ⟨("OctetReader", some "is_at_end"), "is_at_end", "OctetReader.is_at_end", defArgs sOctetReaderIsAtEnd, defBody sOctetReaderIsAtEnd, defScope sOctetReaderIsAtEnd⟩
def dn41 : He.FnD := ⟨("OctetReader", some "next_octets"), "next_octets", "OctetReader.next_octets", defArgs sOctetReaderNextOctets, defBody sOctetReaderNextOctets, defScope sOctetReaderNextOctets⟩
def dn42 : He.FnD := ⟨("OctetReader", some "next_octet_of"), "next_octet_of", "OctetReader.next_octet_of", defArgs sOctetReaderNextOctetOf, defBody sOctetReaderNextOctetOf, defScope sOctetReaderNextOctetOf⟩
def dn43 : He.FnD := ⟨("OctetReader", some "next_four"), "next_four", "OctetReader.next_four", defArgs sOctetReaderNextFour, defBody sOctetReaderNextFour, defScope sOctetReaderNextFour⟩
def dn44 : He.FnD := ⟨("OctetReader", some "next_four_in"), "next_four_in", "OctetReader.next_four_in", defArgs sOctetReaderNextFourIn, defBody sOctetReaderNextFourIn, defScope sOctetReaderNextFourIn⟩
def dn45 : He.FnD := ⟨("Shape", some "__eq__"), "__eq__", "Shape.__eq__", defArgs sShEq, defBody sShEq, defScope sShEq⟩
def dn46 : He.FnD := ⟨("Choices", some "next_below"), "next_below", "Choices.next_below", defArgs sChoicesNextBelow, defBody sChoicesNextBelow, defScope sChoicesNextBelow⟩
def dn47 : He.FnD := ⟨("Disk", some "names"), "names", "Disk.names", defArgs sDiskNames, defBody sDiskNames, defScope sDiskNames⟩
def dn48 : He.FnD := ⟨("Disk", some "size"), "size", "Disk.size", defArgs sDiskSize, defBody sDiskSize, defScope sDiskSize⟩
def dn49 : He.FnD := ⟨("Disk", some "read"), "read", "Disk.read", defArgs sDiskRead, defBody sDiskRead, defScope sDiskRead⟩
def dn50 : He.FnD := ⟨("Disk", some "append"), "append", "Disk.append", defArgs sDiskAppend, defBody sDiskAppend, defScope sDiskAppend⟩
def dn51 : He.FnD := ⟨("Disk", some "sync"), "sync", "Disk.sync", defArgs sDiskSync, defBody sDiskSync, defScope sDiskSync⟩
def dn52 : He.FnD := ⟨("Disk", some "rename"), "rename", "Disk.rename", defArgs sDiskRename, defBody sDiskRename, defScope sDiskRename⟩
def dn53 : He.FnD := ⟨("Disk", some "sync_names"), "sync_names", "Disk.sync_names", defArgs sDiskSyncNames, defBody sDiskSyncNames, defScope sDiskSyncNames⟩
def dn54 : He.FnD := ⟨("Disk", some "lose"), "lose", "Disk.lose", defArgs sDiskLose, defBody sDiskLose, defScope sDiskLose⟩
def dn55 : He.FnD := ⟨("Disk", some "_begin_deed"), "_begin_deed", "Disk._begin_deed", defArgs sDiskBeginDeed, defBody sDiskBeginDeed, defScope sDiskBeginDeed⟩
def dn56 : He.FnD := ⟨("Disk", some "_change"), "_change", "Disk._change", defArgs sDiskChange, defBody sDiskChange, defScope sDiskChange⟩
def dn57 : He.FnD := ⟨("Disk", some "_hold"), "_hold", "Disk._hold", defArgs sDiskHold, defBody sDiskHold, defScope sDiskHold⟩
def dn58 : He.FnD := ⟨("Store", some "root"), "root", "Store.root", defArgs sStoreRoot, defBody sStoreRoot, defScope sStoreRoot⟩
def dn59 : He.FnD := ⟨("Store", some "data_name"), "data_name", "Store.data_name", defArgs sStoreDataName, defBody sStoreDataName, defScope sStoreDataName⟩
def dn60 : He.FnD := ⟨("Store", some "data_size"), "data_size", "Store.data_size", defArgs sStoreDataSize, defBody sStoreDataSize, defScope sStoreDataSize⟩
def dn61 : He.FnD := ⟨("Store", some "standing_octets"), "standing_octets", "Store.standing_octets", defArgs sStoreStandingOctets, defBody sStoreStandingOctets, defScope sStoreStandingOctets⟩
def dn62 : He.FnD := ⟨("Store", some "sound_octets"), "sound_octets", "Store.sound_octets", defArgs sStoreSoundOctets, defBody sStoreSoundOctets, defScope sStoreSoundOctets⟩
def dn63 : He.FnD := ⟨("Store", some "_arrays_of"), "_arrays_of", "Store._arrays_of", defArgs sStoreArraysOf, defBody sStoreArraysOf, defScope sStoreArraysOf⟩
def dn64 : He.FnD := ⟨("Store", some "versions"), "versions", "Store.versions", defArgs sStoreVersions, defBody sStoreVersions, defScope sStoreVersions⟩
def dn65 : He.FnD := ⟨("Store", some "latest"), "latest", "Store.latest", defArgs sStoreLatest, defBody sStoreLatest, defScope sStoreLatest⟩
def dn66 : He.FnD := ⟨("Store", some "arrays"), "arrays", "Store.arrays", defArgs sStoreArrays, defBody sStoreArrays, defScope sStoreArrays⟩
def dn67 : He.FnD := ⟨("Store", some "shape"), "shape", "Store.shape", defArgs sStoreShape, defBody sStoreShape, defScope sStoreShape⟩
def dn68 : He.FnD := ⟨("Store", some "chunks"), "chunks", "Store.chunks", defArgs sStoreChunks, defBody sStoreChunks, defScope sStoreChunks⟩
def dn69 : He.FnD := ⟨("Store", some "chunk"), "chunk", "Store.chunk", defArgs sStoreChunk, defBody sStoreChunk, defScope sStoreChunk⟩
def dn70 : He.FnD := ⟨("Store", some "_append_record"), "_append_record", "Store._append_record", defArgs sStoreAppendRecord, defBody sStoreAppendRecord, defScope sStoreAppendRecord⟩
def dn71 : He.FnD := ⟨("Store", some "_record_again"), "_record_again", "Store._record_again", defArgs sStoreRecordAgain, defBody sStoreRecordAgain, defScope sStoreRecordAgain⟩
def dn72 : He.FnD := ⟨("Store", some "_take_root"), "_take_root", "Store._take_root", defArgs sStoreTakeRoot, defBody sStoreTakeRoot, defScope sStoreTakeRoot⟩
def dn73 : He.FnD := ⟨("Store", some "write_root"), "write_root", "Store.write_root", defArgs sStoreWriteRoot, defBody sStoreWriteRoot, defScope sStoreWriteRoot⟩
def dn74 : He.FnD := ⟨("Store", some "put"), "put", "Store.put", defArgs sStorePut, defBody sStorePut, defScope sStorePut⟩
def dn75 : He.FnD := ⟨("ManysidesError", some "__init__"), "__init__", "ManysidesError.__init__", defArgs sInit, defBody sInit, defScope sInit⟩
def fbs : List FB := [q_a1, q_a2, q_a3, q_a4, q_a5, q_a6, q_a7, q_a8, q_a9, q_a10, q_a11, q_a12, q_a13, q_a14, q_a15, q_a16, q_a17, q_a18, q_a19, q_a20, q_a21, q_a22, q_a23, q_a24, q_a25, q_a26, q_a27, q_a28, q_a29, q_a30, q_a31, q_a32, q_a33, q_z1, q_z2, q_z3, q_z4, q_z5, q_z6, q_z7, q_z8, q_z9, q_z10, q_z11, q_z12, q_z13, q_z14, q_z15, q_z16, q_z17, q_z18, q_z19, q_z20, q_g1, q_g2, q_g3, q_g4, q_g5, q_g6, q_g7, q_g8, q_g9, q_g10, q_g11, q_g12, q_g13, q_g14, q_g15, q_g16, q_g17, q_g18, q_g19, q_eKK, q_lKK, q_eFF, q_lFF, q_xOe, q_xO1, q_xO2, q_xO3, q_xO4, q_xO5, q_xO6, q_xO7, q_xO8, q_xOn0, q_xOn1, q_xSe, q_xS1, q_xS2, q_xS3, q_xS4, q_xS5, q_xS6, q_xS7, q_xS8, q_xSn0, q_xSn1, q_xRe, q_xR1, q_xR2, q_xR3, q_xR4, q_xR5, q_xR6, q_xR7, q_xR8, q_xRn0, q_xRn1, q_xRn2, q_xCce, q_xCc1, q_xCc2, q_xCc3, q_xCc4, q_xCc5, q_xCc6, q_xCc7, q_xCc8, q_xCcn0, q_xCcn1, q_xChe, q_xCh1, q_xCh2, q_xCh3, q_xCh4, q_xCh5, q_xCh6, q_xCh7, q_xCh8, q_xChn0, q_xDke, q_xDk1, q_xDk2, q_xDk3, q_xDk4, q_xDk5, q_xDk6, q_xDk7, q_xDk8, q_xDkn0, q_xDkn1, q_xDkn2, q_xDkn3, q_xDkn4, q_xSte, q_xSt1, q_xSt2, q_xSt3, q_xSt4, q_xSt5, q_xSt6, q_xSt7, q_xSt8, q_xStn0, q_xStn1, q_xStn2, q_hn, q_ht, q_eM, q_eC1, q_xL1, q_sa1, q_ga1, q_gg1, q_hs1, q_hd1, q_ha1, q_hm1, q_tyC1, q_kC1, q_rd1, q_fc1, q_noP1, q_noN1, q_iC1, q_sCC1, q_eC2, q_xL2, q_sa2, q_ga2, q_gg2, q_hs2, q_hd2, q_ha2, q_hm2, q_tyC2, q_kC2, q_rd2, q_fc2, q_noP2, q_noN2, q_iC2, q_sCC2, q_mOe, q_hOe, q_mOn, q_hOn, q_mOo, q_hOo, q_mO4, q_hO4, q_mOi, q_hOi, q_mSE, q_hSE, q_mNb, q_hNb, q_mDn, q_hDn, q_mDs, q_hDs, q_mDr, q_hDr, q_mDa, q_hDa, q_mDy, q_hDy, q_mDe, q_hDe, q_mDz, q_hDz, q_mDo, q_hDo, q_mDb, q_hDb, q_mDc, q_hDc, q_mDh, q_hDh, q_mSr, q_hSr, q_mSd, q_hSd, q_mSz, q_hSz, q_mSo, q_hSo, q_mSu, q_hSu, q_mSa, q_hSa, q_mSv, q_hSv, q_mSl, q_hSl, q_mSy, q_hSy, q_mSh, q_hSh, q_mSk, q_hSk, q_mSc, q_hSc, q_mSp, q_hSp, q_mSg, q_hSg, q_mSx, q_hSx, q_mSw, q_hSw, q_mSq, q_hSq, q_qS1, q_qS2, q_qS3, q_qS4, q_qS5, q_qS6, q_nq1, q_nq2, q_nq3, q_nq4, q_nq5, q_nq6, q_tIE]
def fns : List He.FnD := [dn0, dn1, dn2, dn3, dn4, dn5, dn6, dn7, dn8, dn9, dn10, dn11, dn12, dn13, dn14, dn15, dn16, dn17, dn18, dn19, dn20, dn21, dn22, dn23, dn24, dn25, dn26, dn27, dn28, dn29, dn30, dn31, dn32, dn33, dn34, dn35, dn36, dn37, dn38, dn39, dn40, dn41, dn42, dn43, dn44, dn45, dn46, dn47, dn48, dn49, dn50, dn51, dn52, dn53, dn54, dn55, dn56, dn57, dn58, dn59, dn60, dn61, dn62, dn63, dn64, dn65, dn66, dn67, dn68, dn69, dn70, dn71, dn72, dn73, dn74, dn75]
def hd_names0 : List PySem.Str := ["_wall", "__name__", "ManysidesError", "InvalidText", "InvalidShape", "InvalidVersion", "Truncated", "Damaged", "PowerLost", "LINE_FEED", "SPACE", "PERCENT_SIGN", "TILDE", "CHARACTERS", "encode_text", "decode_text", "is_code", "character_of", "KINDS", "OctetReader", "DIGITS", "NAME_CHARACTERS", "LONGEST_NAME", "MOST_DIMS", "MOST_ATTRS", "FURTHEST", "LONGEST_STEP", "Shape", "check_shape", "is_dim"]
def hd_names1 : List PySem.Str := ["is_attr", "is_simple_name", "FIRST_OCTETS", "SUM_MODULUS", "LIFT", "GREATEST_NUMBER", "Root", "sum_of", "write_four", "write_name", "encode_root", "write_shape", "write_chunks", "decode_root", "read_arrays", "read_name", "read_shape", "read_dim", "read_attr", "read_chunks", "ROOT_FILE", "NEW_ROOT_FILE", "DATA_PREFIX", "SUM_LENGTH", "data_file", "root_on", "records_by_version", "Store", "Content", "Choices"]
def hd_names2 : List PySem.Str := ["Disk", "change_names", "octets_left", "_law_draw", "_law_shape", "_law_chunks", "_law_arrays", "_law_same", "_law_refused"]
def hd_names : List PySem.Str := hd_names0 ++ hd_names1 ++ hd_names2
abbrev hd_R : PySem.W.OpenRow := PySem.W.OpenLaw.row PySem.Challenge.rw_manysides_k59_versions_of_a_store
abbrev hd_q : Program := PySem.W.view hd_R.prog [76]
abbrev hd_k : PySem.W.Hook := hookM fbs fns
theorem hd_run (w : World) : HandSHeadRun.RunEq hd_R hd_q hd_k (obM fbs fns) 30000 hd_names w := by
  intro os
  kernel_rfl
theorem hd_facts {l : PySem.W.OpenLaw} {w : World} {K : PySem.W.Frag} {h : Heap} {mg : Str → Option Value} {fa : Addr} (X : K.In h) (G : h.Ns mainGlobals mg) (hfa : mg "law" = some (.ref fa)) (c : obsM fbs fns K = valM fns) : ∃ fd : FuncData, (∀ (s : Shared) (v : Value), BindsTo s fd ⟨[v], []⟩ [("script", v)]) ∧ ∀ base : Heap, K.In base → base.Ns mainGlobals mg → FnOk l.prog w K mg base CX0 11 fa fd ["script"] (spLaw K) := by
  have hb := fb_all c
  unfold fbs at hb
  obtain ⟨hq_a1, hb⟩ := fb_cons hb
  obtain ⟨hq_a2, hb⟩ := fb_cons hb
  obtain ⟨hq_a3, hb⟩ := fb_cons hb
  obtain ⟨hq_a4, hb⟩ := fb_cons hb
  obtain ⟨hq_a5, hb⟩ := fb_cons hb
  obtain ⟨hq_a6, hb⟩ := fb_cons hb
  obtain ⟨hq_a7, hb⟩ := fb_cons hb
  obtain ⟨hq_a8, hb⟩ := fb_cons hb
  obtain ⟨hq_a9, hb⟩ := fb_cons hb
  obtain ⟨hq_a10, hb⟩ := fb_cons hb
  obtain ⟨hq_a11, hb⟩ := fb_cons hb
  obtain ⟨hq_a12, hb⟩ := fb_cons hb
  obtain ⟨hq_a13, hb⟩ := fb_cons hb
  obtain ⟨hq_a14, hb⟩ := fb_cons hb
  obtain ⟨hq_a15, hb⟩ := fb_cons hb
  obtain ⟨hq_a16, hb⟩ := fb_cons hb
  obtain ⟨hq_a17, hb⟩ := fb_cons hb
  obtain ⟨hq_a18, hb⟩ := fb_cons hb
  obtain ⟨hq_a19, hb⟩ := fb_cons hb
  obtain ⟨hq_a20, hb⟩ := fb_cons hb
  obtain ⟨hq_a21, hb⟩ := fb_cons hb
  obtain ⟨hq_a22, hb⟩ := fb_cons hb
  obtain ⟨hq_a23, hb⟩ := fb_cons hb
  obtain ⟨hq_a24, hb⟩ := fb_cons hb
  obtain ⟨hq_a25, hb⟩ := fb_cons hb
  obtain ⟨hq_a26, hb⟩ := fb_cons hb
  obtain ⟨hq_a27, hb⟩ := fb_cons hb
  obtain ⟨hq_a28, hb⟩ := fb_cons hb
  obtain ⟨hq_a29, hb⟩ := fb_cons hb
  obtain ⟨hq_a30, hb⟩ := fb_cons hb
  obtain ⟨hq_a31, hb⟩ := fb_cons hb
  obtain ⟨hq_a32, hb⟩ := fb_cons hb
  obtain ⟨hq_a33, hb⟩ := fb_cons hb
  obtain ⟨hq_z1, hb⟩ := fb_cons hb
  obtain ⟨hq_z2, hb⟩ := fb_cons hb
  obtain ⟨hq_z3, hb⟩ := fb_cons hb
  obtain ⟨hq_z4, hb⟩ := fb_cons hb
  obtain ⟨hq_z5, hb⟩ := fb_cons hb
  obtain ⟨hq_z6, hb⟩ := fb_cons hb
  obtain ⟨hq_z7, hb⟩ := fb_cons hb
  obtain ⟨hq_z8, hb⟩ := fb_cons hb
  obtain ⟨hq_z9, hb⟩ := fb_cons hb
  obtain ⟨hq_z10, hb⟩ := fb_cons hb
  obtain ⟨hq_z11, hb⟩ := fb_cons hb
  obtain ⟨hq_z12, hb⟩ := fb_cons hb
  obtain ⟨hq_z13, hb⟩ := fb_cons hb
  obtain ⟨hq_z14, hb⟩ := fb_cons hb
  obtain ⟨hq_z15, hb⟩ := fb_cons hb
  obtain ⟨hq_z16, hb⟩ := fb_cons hb
  obtain ⟨hq_z17, hb⟩ := fb_cons hb
  obtain ⟨hq_z18, hb⟩ := fb_cons hb
  obtain ⟨hq_z19, hb⟩ := fb_cons hb
  obtain ⟨hq_z20, hb⟩ := fb_cons hb
  obtain ⟨hq_g1, hb⟩ := fb_cons hb
  obtain ⟨hq_g2, hb⟩ := fb_cons hb
  obtain ⟨hq_g3, hb⟩ := fb_cons hb
  obtain ⟨hq_g4, hb⟩ := fb_cons hb
  obtain ⟨hq_g5, hb⟩ := fb_cons hb
  obtain ⟨hq_g6, hb⟩ := fb_cons hb
  obtain ⟨hq_g7, hb⟩ := fb_cons hb
  obtain ⟨hq_g8, hb⟩ := fb_cons hb
  obtain ⟨hq_g9, hb⟩ := fb_cons hb
  obtain ⟨hq_g10, hb⟩ := fb_cons hb
  obtain ⟨hq_g11, hb⟩ := fb_cons hb
  obtain ⟨hq_g12, hb⟩ := fb_cons hb
  obtain ⟨hq_g13, hb⟩ := fb_cons hb
  obtain ⟨hq_g14, hb⟩ := fb_cons hb
  obtain ⟨hq_g15, hb⟩ := fb_cons hb
  obtain ⟨hq_g16, hb⟩ := fb_cons hb
  obtain ⟨hq_g17, hb⟩ := fb_cons hb
  obtain ⟨hq_g18, hb⟩ := fb_cons hb
  obtain ⟨hq_g19, hb⟩ := fb_cons hb
  obtain ⟨hq_eKK, hb⟩ := fb_cons hb
  obtain ⟨hq_lKK, hb⟩ := fb_cons hb
  obtain ⟨hq_eFF, hb⟩ := fb_cons hb
  obtain ⟨hq_lFF, hb⟩ := fb_cons hb
  obtain ⟨hq_xOe, hb⟩ := fb_cons hb
  obtain ⟨hq_xO1, hb⟩ := fb_cons hb
  obtain ⟨hq_xO2, hb⟩ := fb_cons hb
  obtain ⟨hq_xO3, hb⟩ := fb_cons hb
  obtain ⟨hq_xO4, hb⟩ := fb_cons hb
  obtain ⟨hq_xO5, hb⟩ := fb_cons hb
  obtain ⟨hq_xO6, hb⟩ := fb_cons hb
  obtain ⟨hq_xO7, hb⟩ := fb_cons hb
  obtain ⟨hq_xO8, hb⟩ := fb_cons hb
  obtain ⟨hq_xOn0, hb⟩ := fb_cons hb
  obtain ⟨hq_xOn1, hb⟩ := fb_cons hb
  obtain ⟨hq_xSe, hb⟩ := fb_cons hb
  obtain ⟨hq_xS1, hb⟩ := fb_cons hb
  obtain ⟨hq_xS2, hb⟩ := fb_cons hb
  obtain ⟨hq_xS3, hb⟩ := fb_cons hb
  obtain ⟨hq_xS4, hb⟩ := fb_cons hb
  obtain ⟨hq_xS5, hb⟩ := fb_cons hb
  obtain ⟨hq_xS6, hb⟩ := fb_cons hb
  obtain ⟨hq_xS7, hb⟩ := fb_cons hb
  obtain ⟨hq_xS8, hb⟩ := fb_cons hb
  obtain ⟨hq_xSn0, hb⟩ := fb_cons hb
  obtain ⟨hq_xSn1, hb⟩ := fb_cons hb
  obtain ⟨hq_xRe, hb⟩ := fb_cons hb
  obtain ⟨hq_xR1, hb⟩ := fb_cons hb
  obtain ⟨hq_xR2, hb⟩ := fb_cons hb
  obtain ⟨hq_xR3, hb⟩ := fb_cons hb
  obtain ⟨hq_xR4, hb⟩ := fb_cons hb
  obtain ⟨hq_xR5, hb⟩ := fb_cons hb
  obtain ⟨hq_xR6, hb⟩ := fb_cons hb
  obtain ⟨hq_xR7, hb⟩ := fb_cons hb
  obtain ⟨hq_xR8, hb⟩ := fb_cons hb
  obtain ⟨hq_xRn0, hb⟩ := fb_cons hb
  obtain ⟨hq_xRn1, hb⟩ := fb_cons hb
  obtain ⟨hq_xRn2, hb⟩ := fb_cons hb
  obtain ⟨hq_xCce, hb⟩ := fb_cons hb
  obtain ⟨hq_xCc1, hb⟩ := fb_cons hb
  obtain ⟨hq_xCc2, hb⟩ := fb_cons hb
  obtain ⟨hq_xCc3, hb⟩ := fb_cons hb
  obtain ⟨hq_xCc4, hb⟩ := fb_cons hb
  obtain ⟨hq_xCc5, hb⟩ := fb_cons hb
  obtain ⟨hq_xCc6, hb⟩ := fb_cons hb
  obtain ⟨hq_xCc7, hb⟩ := fb_cons hb
  obtain ⟨hq_xCc8, hb⟩ := fb_cons hb
  obtain ⟨hq_xCcn0, hb⟩ := fb_cons hb
  obtain ⟨hq_xCcn1, hb⟩ := fb_cons hb
  obtain ⟨hq_xChe, hb⟩ := fb_cons hb
  obtain ⟨hq_xCh1, hb⟩ := fb_cons hb
  obtain ⟨hq_xCh2, hb⟩ := fb_cons hb
  obtain ⟨hq_xCh3, hb⟩ := fb_cons hb
  obtain ⟨hq_xCh4, hb⟩ := fb_cons hb
  obtain ⟨hq_xCh5, hb⟩ := fb_cons hb
  obtain ⟨hq_xCh6, hb⟩ := fb_cons hb
  obtain ⟨hq_xCh7, hb⟩ := fb_cons hb
  obtain ⟨hq_xCh8, hb⟩ := fb_cons hb
  obtain ⟨hq_xChn0, hb⟩ := fb_cons hb
  obtain ⟨hq_xDke, hb⟩ := fb_cons hb
  obtain ⟨hq_xDk1, hb⟩ := fb_cons hb
  obtain ⟨hq_xDk2, hb⟩ := fb_cons hb
  obtain ⟨hq_xDk3, hb⟩ := fb_cons hb
  obtain ⟨hq_xDk4, hb⟩ := fb_cons hb
  obtain ⟨hq_xDk5, hb⟩ := fb_cons hb
  obtain ⟨hq_xDk6, hb⟩ := fb_cons hb
  obtain ⟨hq_xDk7, hb⟩ := fb_cons hb
  obtain ⟨hq_xDk8, hb⟩ := fb_cons hb
  obtain ⟨hq_xDkn0, hb⟩ := fb_cons hb
  obtain ⟨hq_xDkn1, hb⟩ := fb_cons hb
  obtain ⟨hq_xDkn2, hb⟩ := fb_cons hb
  obtain ⟨hq_xDkn3, hb⟩ := fb_cons hb
  obtain ⟨hq_xDkn4, hb⟩ := fb_cons hb
  obtain ⟨hq_xSte, hb⟩ := fb_cons hb
  obtain ⟨hq_xSt1, hb⟩ := fb_cons hb
  obtain ⟨hq_xSt2, hb⟩ := fb_cons hb
  obtain ⟨hq_xSt3, hb⟩ := fb_cons hb
  obtain ⟨hq_xSt4, hb⟩ := fb_cons hb
  obtain ⟨hq_xSt5, hb⟩ := fb_cons hb
  obtain ⟨hq_xSt6, hb⟩ := fb_cons hb
  obtain ⟨hq_xSt7, hb⟩ := fb_cons hb
  obtain ⟨hq_xSt8, hb⟩ := fb_cons hb
  obtain ⟨hq_xStn0, hb⟩ := fb_cons hb
  obtain ⟨hq_xStn1, hb⟩ := fb_cons hb
  obtain ⟨hq_xStn2, hb⟩ := fb_cons hb
  obtain ⟨hq_hn, hb⟩ := fb_cons hb
  obtain ⟨hq_ht, hb⟩ := fb_cons hb
  obtain ⟨hq_eM, hb⟩ := fb_cons hb
  obtain ⟨hq_eC1, hb⟩ := fb_cons hb
  obtain ⟨hq_xL1, hb⟩ := fb_cons hb
  obtain ⟨hq_sa1, hb⟩ := fb_cons hb
  obtain ⟨hq_ga1, hb⟩ := fb_cons hb
  obtain ⟨hq_gg1, hb⟩ := fb_cons hb
  obtain ⟨hq_hs1, hb⟩ := fb_cons hb
  obtain ⟨hq_hd1, hb⟩ := fb_cons hb
  obtain ⟨hq_ha1, hb⟩ := fb_cons hb
  obtain ⟨hq_hm1, hb⟩ := fb_cons hb
  obtain ⟨hq_tyC1, hb⟩ := fb_cons hb
  obtain ⟨hq_kC1, hb⟩ := fb_cons hb
  obtain ⟨hq_rd1, hb⟩ := fb_cons hb
  obtain ⟨hq_fc1, hb⟩ := fb_cons hb
  obtain ⟨hq_noP1, hb⟩ := fb_cons hb
  obtain ⟨hq_noN1, hb⟩ := fb_cons hb
  obtain ⟨hq_iC1, hb⟩ := fb_cons hb
  obtain ⟨hq_sCC1, hb⟩ := fb_cons hb
  obtain ⟨hq_eC2, hb⟩ := fb_cons hb
  obtain ⟨hq_xL2, hb⟩ := fb_cons hb
  obtain ⟨hq_sa2, hb⟩ := fb_cons hb
  obtain ⟨hq_ga2, hb⟩ := fb_cons hb
  obtain ⟨hq_gg2, hb⟩ := fb_cons hb
  obtain ⟨hq_hs2, hb⟩ := fb_cons hb
  obtain ⟨hq_hd2, hb⟩ := fb_cons hb
  obtain ⟨hq_ha2, hb⟩ := fb_cons hb
  obtain ⟨hq_hm2, hb⟩ := fb_cons hb
  obtain ⟨hq_tyC2, hb⟩ := fb_cons hb
  obtain ⟨hq_kC2, hb⟩ := fb_cons hb
  obtain ⟨hq_rd2, hb⟩ := fb_cons hb
  obtain ⟨hq_fc2, hb⟩ := fb_cons hb
  obtain ⟨hq_noP2, hb⟩ := fb_cons hb
  obtain ⟨hq_noN2, hb⟩ := fb_cons hb
  obtain ⟨hq_iC2, hb⟩ := fb_cons hb
  obtain ⟨hq_sCC2, hb⟩ := fb_cons hb
  obtain ⟨hq_mOe, hb⟩ := fb_cons hb
  obtain ⟨hq_hOe, hb⟩ := fb_cons hb
  obtain ⟨hq_mOn, hb⟩ := fb_cons hb
  obtain ⟨hq_hOn, hb⟩ := fb_cons hb
  obtain ⟨hq_mOo, hb⟩ := fb_cons hb
  obtain ⟨hq_hOo, hb⟩ := fb_cons hb
  obtain ⟨hq_mO4, hb⟩ := fb_cons hb
  obtain ⟨hq_hO4, hb⟩ := fb_cons hb
  obtain ⟨hq_mOi, hb⟩ := fb_cons hb
  obtain ⟨hq_hOi, hb⟩ := fb_cons hb
  obtain ⟨hq_mSE, hb⟩ := fb_cons hb
  obtain ⟨hq_hSE, hb⟩ := fb_cons hb
  obtain ⟨hq_mNb, hb⟩ := fb_cons hb
  obtain ⟨hq_hNb, hb⟩ := fb_cons hb
  obtain ⟨hq_mDn, hb⟩ := fb_cons hb
  obtain ⟨hq_hDn, hb⟩ := fb_cons hb
  obtain ⟨hq_mDs, hb⟩ := fb_cons hb
  obtain ⟨hq_hDs, hb⟩ := fb_cons hb
  obtain ⟨hq_mDr, hb⟩ := fb_cons hb
  obtain ⟨hq_hDr, hb⟩ := fb_cons hb
  obtain ⟨hq_mDa, hb⟩ := fb_cons hb
  obtain ⟨hq_hDa, hb⟩ := fb_cons hb
  obtain ⟨hq_mDy, hb⟩ := fb_cons hb
  obtain ⟨hq_hDy, hb⟩ := fb_cons hb
  obtain ⟨hq_mDe, hb⟩ := fb_cons hb
  obtain ⟨hq_hDe, hb⟩ := fb_cons hb
  obtain ⟨hq_mDz, hb⟩ := fb_cons hb
  obtain ⟨hq_hDz, hb⟩ := fb_cons hb
  obtain ⟨hq_mDo, hb⟩ := fb_cons hb
  obtain ⟨hq_hDo, hb⟩ := fb_cons hb
  obtain ⟨hq_mDb, hb⟩ := fb_cons hb
  obtain ⟨hq_hDb, hb⟩ := fb_cons hb
  obtain ⟨hq_mDc, hb⟩ := fb_cons hb
  obtain ⟨hq_hDc, hb⟩ := fb_cons hb
  obtain ⟨hq_mDh, hb⟩ := fb_cons hb
  obtain ⟨hq_hDh, hb⟩ := fb_cons hb
  obtain ⟨hq_mSr, hb⟩ := fb_cons hb
  obtain ⟨hq_hSr, hb⟩ := fb_cons hb
  obtain ⟨hq_mSd, hb⟩ := fb_cons hb
  obtain ⟨hq_hSd, hb⟩ := fb_cons hb
  obtain ⟨hq_mSz, hb⟩ := fb_cons hb
  obtain ⟨hq_hSz, hb⟩ := fb_cons hb
  obtain ⟨hq_mSo, hb⟩ := fb_cons hb
  obtain ⟨hq_hSo, hb⟩ := fb_cons hb
  obtain ⟨hq_mSu, hb⟩ := fb_cons hb
  obtain ⟨hq_hSu, hb⟩ := fb_cons hb
  obtain ⟨hq_mSa, hb⟩ := fb_cons hb
  obtain ⟨hq_hSa, hb⟩ := fb_cons hb
  obtain ⟨hq_mSv, hb⟩ := fb_cons hb
  obtain ⟨hq_hSv, hb⟩ := fb_cons hb
  obtain ⟨hq_mSl, hb⟩ := fb_cons hb
  obtain ⟨hq_hSl, hb⟩ := fb_cons hb
  obtain ⟨hq_mSy, hb⟩ := fb_cons hb
  obtain ⟨hq_hSy, hb⟩ := fb_cons hb
  obtain ⟨hq_mSh, hb⟩ := fb_cons hb
  obtain ⟨hq_hSh, hb⟩ := fb_cons hb
  obtain ⟨hq_mSk, hb⟩ := fb_cons hb
  obtain ⟨hq_hSk, hb⟩ := fb_cons hb
  obtain ⟨hq_mSc, hb⟩ := fb_cons hb
  obtain ⟨hq_hSc, hb⟩ := fb_cons hb
  obtain ⟨hq_mSp, hb⟩ := fb_cons hb
  obtain ⟨hq_hSp, hb⟩ := fb_cons hb
  obtain ⟨hq_mSg, hb⟩ := fb_cons hb
  obtain ⟨hq_hSg, hb⟩ := fb_cons hb
  obtain ⟨hq_mSx, hb⟩ := fb_cons hb
  obtain ⟨hq_hSx, hb⟩ := fb_cons hb
  obtain ⟨hq_mSw, hb⟩ := fb_cons hb
  obtain ⟨hq_hSw, hb⟩ := fb_cons hb
  obtain ⟨hq_mSq, hb⟩ := fb_cons hb
  obtain ⟨hq_hSq, hb⟩ := fb_cons hb
  obtain ⟨hq_qS1, hb⟩ := fb_cons hb
  obtain ⟨hq_qS2, hb⟩ := fb_cons hb
  obtain ⟨hq_qS3, hb⟩ := fb_cons hb
  obtain ⟨hq_qS4, hb⟩ := fb_cons hb
  obtain ⟨hq_qS5, hb⟩ := fb_cons hb
  obtain ⟨hq_qS6, hb⟩ := fb_cons hb
  obtain ⟨hq_nq1, hb⟩ := fb_cons hb
  obtain ⟨hq_nq2, hb⟩ := fb_cons hb
  obtain ⟨hq_nq3, hb⟩ := fb_cons hb
  obtain ⟨hq_nq4, hb⟩ := fb_cons hb
  obtain ⟨hq_nq5, hb⟩ := fb_cons hb
  obtain ⟨hq_nq6, hb⟩ := fb_cons hb
  obtain ⟨hq_tIE, hb⟩ := fb_cons hb
  clear hb
  have a1 := of_decide_eq_true hq_a1
  have a2 := of_decide_eq_true hq_a2
  have a3 := of_decide_eq_true hq_a3
  have a4 := of_decide_eq_true hq_a4
  have a5 := of_decide_eq_true hq_a5
  have a6 := of_decide_eq_true hq_a6
  have a7 := of_decide_eq_true hq_a7
  have a8 := of_decide_eq_true hq_a8
  have a9 := of_decide_eq_true hq_a9
  have a10 := of_decide_eq_true hq_a10
  have a11 := of_decide_eq_true hq_a11
  have a12 := of_decide_eq_true hq_a12
  have a13 := of_decide_eq_true hq_a13
  have a14 := of_decide_eq_true hq_a14
  have a15 := of_decide_eq_true hq_a15
  have a16 := of_decide_eq_true hq_a16
  have a17 := of_decide_eq_true hq_a17
  have a18 := of_decide_eq_true hq_a18
  have a19 := of_decide_eq_true hq_a19
  have a20 := of_decide_eq_true hq_a20
  have a21 := of_decide_eq_true hq_a21
  have a22 := of_decide_eq_true hq_a22
  have a23 := of_decide_eq_true hq_a23
  have a24 := of_decide_eq_true hq_a24
  have a25 := of_decide_eq_true hq_a25
  have a26 := of_decide_eq_true hq_a26
  have a27 := of_decide_eq_true hq_a27
  have a28 := of_decide_eq_true hq_a28
  have a29 := of_decide_eq_true hq_a29
  have a30 := of_decide_eq_true hq_a30
  have a31 := of_decide_eq_true hq_a31
  have a32 := of_decide_eq_true hq_a32
  have a33 := of_decide_eq_true hq_a33
  have z1 := of_decide_eq_true hq_z1
  have z2 := of_decide_eq_true hq_z2
  have z3 := of_decide_eq_true hq_z3
  have z4 := of_decide_eq_true hq_z4
  have z5 := of_decide_eq_true hq_z5
  have z6 := of_decide_eq_true hq_z6
  have z7 := of_decide_eq_true hq_z7
  have z8 := of_decide_eq_true hq_z8
  have z9 := of_decide_eq_true hq_z9
  have z10 := of_decide_eq_true hq_z10
  have z11 := of_decide_eq_true hq_z11
  have z12 := of_decide_eq_true hq_z12
  have z13 := of_decide_eq_true hq_z13
  have z14 := of_decide_eq_true hq_z14
  have z15 := of_decide_eq_true hq_z15
  have z16 := of_decide_eq_true hq_z16
  have z17 := of_decide_eq_true hq_z17
  have z18 := of_decide_eq_true hq_z18
  have z19 := of_decide_eq_true hq_z19
  have z20 := of_decide_eq_true hq_z20
  obtain ⟨t1, g1⟩ := gintB_ok hq_g1
  obtain ⟨t2, g2⟩ := gintB_ok hq_g2
  obtain ⟨t3, g3⟩ := gintB_ok hq_g3
  obtain ⟨t4, g4⟩ := gintB_ok hq_g4
  obtain ⟨t5, g5⟩ := gintB_ok hq_g5
  obtain ⟨t6, g6⟩ := gintB_ok hq_g6
  obtain ⟨t7, g7⟩ := gintB_ok hq_g7
  obtain ⟨t8, g8⟩ := gstrB_ok hq_g8
  obtain ⟨t9, g9⟩ := gstrB_ok hq_g9
  obtain ⟨t10, g10⟩ := gstrB_ok hq_g10
  obtain ⟨t11, g11⟩ := gintB_ok hq_g11
  obtain ⟨t12, g12⟩ := gintB_ok hq_g12
  obtain ⟨t13, g13⟩ := gintB_ok hq_g13
  obtain ⟨t14, g14⟩ := gintB_ok hq_g14
  obtain ⟨t15, g15⟩ := gintB_ok hq_g15
  obtain ⟨t16, g16⟩ := gstrB_ok hq_g16
  obtain ⟨t17, g17⟩ := gstrB_ok hq_g17
  obtain ⟨t18, g18⟩ := gstrB_ok hq_g18
  obtain ⟨t19, g19⟩ := gintB_ok hq_g19
  have eKK := of_decide_eq_true hq_eKK
  obtain ⟨its_lKK, n_lKK, sl_lKK, l_lKK, v_lKK⟩ := tupB_ok hq_lKK
  obtain ⟨u0_lKK, r_lKK, e0_lKK, w0_lKK, v_lKK⟩ := vs_cons v_lKK
  obtain ⟨t0_lKK, rfl⟩ := w0_lKK
  obtain ⟨u1_lKK, r_lKK, e1_lKK, w1_lKK, v_lKK⟩ := vs_cons v_lKK
  obtain ⟨t1_lKK, rfl⟩ := w1_lKK
  obtain ⟨u2_lKK, r_lKK, e2_lKK, w2_lKK, v_lKK⟩ := vs_cons v_lKK
  obtain ⟨t2_lKK, rfl⟩ := w2_lKK
  obtain rfl := vs_nil v_lKK
  subst e2_lKK
  subst e1_lKK
  have s_lKK := seq_of e0_lKK
  subst s_lKK
  have lKK := l_lKK
  have eFF := of_decide_eq_true hq_eFF
  obtain ⟨its_lFF, n_lFF, sl_lFF, l_lFF, v_lFF⟩ := tupB_ok hq_lFF
  obtain ⟨u0_lFF, r_lFF, e0_lFF, w0_lFF, v_lFF⟩ := vs_cons v_lFF
  obtain ⟨t0_lFF, rfl⟩ := w0_lFF
  obtain ⟨u1_lFF, r_lFF, e1_lFF, w1_lFF, v_lFF⟩ := vs_cons v_lFF
  obtain ⟨t1_lFF, rfl⟩ := w1_lFF
  obtain rfl := vs_nil v_lFF
  subst e1_lFF
  have s_lFF := seq_of e0_lFF
  subst s_lFF
  have lFF := l_lFF
  have xOe := of_decide_eq_true hq_xOe
  have xO1 := of_decide_eq_true hq_xO1
  have xO2 := of_decide_eq_true hq_xO2
  have xO3 := of_decide_eq_true hq_xO3
  have xO4 := of_decide_eq_true hq_xO4
  have xO5 := of_decide_eq_true hq_xO5
  have xO6 := of_decide_eq_true hq_xO6
  have xO7 := of_decide_eq_true hq_xO7
  have xO8 := of_decide_eq_true hq_xO8
  have xOn0 := of_decide_eq_true hq_xOn0
  have xOn1 := of_decide_eq_true hq_xOn1
  have xSe := of_decide_eq_true hq_xSe
  have xS1 := of_decide_eq_true hq_xS1
  have xS2 := of_decide_eq_true hq_xS2
  have xS3 := of_decide_eq_true hq_xS3
  have xS4 := of_decide_eq_true hq_xS4
  have xS5 := of_decide_eq_true hq_xS5
  have xS6 := of_decide_eq_true hq_xS6
  have xS7 := of_decide_eq_true hq_xS7
  have xS8 := of_decide_eq_true hq_xS8
  have xSn0 := of_decide_eq_true hq_xSn0
  have xSn1 := of_decide_eq_true hq_xSn1
  have xRe := of_decide_eq_true hq_xRe
  have xR1 := of_decide_eq_true hq_xR1
  have xR2 := of_decide_eq_true hq_xR2
  have xR3 := of_decide_eq_true hq_xR3
  have xR4 := of_decide_eq_true hq_xR4
  have xR5 := of_decide_eq_true hq_xR5
  have xR6 := of_decide_eq_true hq_xR6
  have xR7 := of_decide_eq_true hq_xR7
  have xR8 := of_decide_eq_true hq_xR8
  have xRn0 := of_decide_eq_true hq_xRn0
  have xRn1 := of_decide_eq_true hq_xRn1
  have xRn2 := of_decide_eq_true hq_xRn2
  have xCce := of_decide_eq_true hq_xCce
  have xCc1 := of_decide_eq_true hq_xCc1
  have xCc2 := of_decide_eq_true hq_xCc2
  have xCc3 := of_decide_eq_true hq_xCc3
  have xCc4 := of_decide_eq_true hq_xCc4
  have xCc5 := of_decide_eq_true hq_xCc5
  have xCc6 := of_decide_eq_true hq_xCc6
  have xCc7 := of_decide_eq_true hq_xCc7
  have xCc8 := of_decide_eq_true hq_xCc8
  have xCcn0 := of_decide_eq_true hq_xCcn0
  have xCcn1 := of_decide_eq_true hq_xCcn1
  have xChe := of_decide_eq_true hq_xChe
  have xCh1 := of_decide_eq_true hq_xCh1
  have xCh2 := of_decide_eq_true hq_xCh2
  have xCh3 := of_decide_eq_true hq_xCh3
  have xCh4 := of_decide_eq_true hq_xCh4
  have xCh5 := of_decide_eq_true hq_xCh5
  have xCh6 := of_decide_eq_true hq_xCh6
  have xCh7 := of_decide_eq_true hq_xCh7
  have xCh8 := of_decide_eq_true hq_xCh8
  have xChn0 := of_decide_eq_true hq_xChn0
  have xDke := of_decide_eq_true hq_xDke
  have xDk1 := of_decide_eq_true hq_xDk1
  have xDk2 := of_decide_eq_true hq_xDk2
  have xDk3 := of_decide_eq_true hq_xDk3
  have xDk4 := of_decide_eq_true hq_xDk4
  have xDk5 := of_decide_eq_true hq_xDk5
  have xDk6 := of_decide_eq_true hq_xDk6
  have xDk7 := of_decide_eq_true hq_xDk7
  have xDk8 := of_decide_eq_true hq_xDk8
  have xDkn0 := of_decide_eq_true hq_xDkn0
  have xDkn1 := of_decide_eq_true hq_xDkn1
  have xDkn2 := of_decide_eq_true hq_xDkn2
  have xDkn3 := of_decide_eq_true hq_xDkn3
  have xDkn4 := of_decide_eq_true hq_xDkn4
  have xSte := of_decide_eq_true hq_xSte
  have xSt1 := of_decide_eq_true hq_xSt1
  have xSt2 := of_decide_eq_true hq_xSt2
  have xSt3 := of_decide_eq_true hq_xSt3
  have xSt4 := of_decide_eq_true hq_xSt4
  have xSt5 := of_decide_eq_true hq_xSt5
  have xSt6 := of_decide_eq_true hq_xSt6
  have xSt7 := of_decide_eq_true hq_xSt7
  have xSt8 := of_decide_eq_true hq_xSt8
  have xStn0 := of_decide_eq_true hq_xStn0
  have xStn1 := of_decide_eq_true hq_xStn1
  have xStn2 := of_decide_eq_true hq_xStn2
  have hn := of_decide_eq_true hq_hn
  have ht := of_decide_eq_true hq_ht
  have eM := of_decide_eq_true hq_eM
  have eC1 := of_decide_eq_true hq_eC1
  obtain ⟨_, _, _, _, _, _, _, _, _, _, _, _, _, _, xL1⟩ := excB_ok hq_xL1
  have sa1 := of_decide_eq_true hq_sa1
  have ga1 := of_decide_eq_true hq_ga1
  have gg1 := of_decide_eq_true hq_gg1
  have hs1 := of_decide_eq_true hq_hs1
  have hd1 := of_decide_eq_true hq_hd1
  have ha1 := of_decide_eq_true hq_ha1
  have hm1 := of_decide_eq_true hq_hm1
  have tyC1 := of_decide_eq_true hq_tyC1
  have kC1 := of_decide_eq_true hq_kC1
  have rd1 := of_decide_eq_true hq_rd1
  have fc1 := nameB_ok hq_fc1
  have noP1 := of_decide_eq_true hq_noP1
  have noN1 := of_decide_eq_true hq_noN1
  have iC1 := of_decide_eq_true hq_iC1
  have sCC1 := of_decide_eq_true hq_sCC1
  have eC2 := of_decide_eq_true hq_eC2
  obtain ⟨_, _, _, _, _, _, _, _, _, _, _, _, _, _, xL2⟩ := excB_ok hq_xL2
  have sa2 := of_decide_eq_true hq_sa2
  have ga2 := of_decide_eq_true hq_ga2
  have gg2 := of_decide_eq_true hq_gg2
  have hs2 := of_decide_eq_true hq_hs2
  have hd2 := of_decide_eq_true hq_hd2
  have ha2 := of_decide_eq_true hq_ha2
  have hm2 := of_decide_eq_true hq_hm2
  have tyC2 := of_decide_eq_true hq_tyC2
  have kC2 := of_decide_eq_true hq_kC2
  have rd2 := of_decide_eq_true hq_rd2
  have fc2 := nameB_ok hq_fc2
  have noP2 := of_decide_eq_true hq_noP2
  have noN2 := of_decide_eq_true hq_noN2
  have iC2 := of_decide_eq_true hq_iC2
  have sCC2 := of_decide_eq_true hq_sCC2
  have mOe := of_decide_eq_true hq_mOe
  have hOe := of_decide_eq_true hq_hOe
  have mOn := of_decide_eq_true hq_mOn
  have hOn := of_decide_eq_true hq_hOn
  have mOo := of_decide_eq_true hq_mOo
  have hOo := of_decide_eq_true hq_hOo
  have mO4 := of_decide_eq_true hq_mO4
  have hO4 := of_decide_eq_true hq_hO4
  have mOi := of_decide_eq_true hq_mOi
  have hOi := of_decide_eq_true hq_hOi
  have mSE := of_decide_eq_true hq_mSE
  have hSE := of_decide_eq_true hq_hSE
  have mNb := of_decide_eq_true hq_mNb
  have hNb := of_decide_eq_true hq_hNb
  have mDn := of_decide_eq_true hq_mDn
  have hDn := of_decide_eq_true hq_hDn
  have mDs := of_decide_eq_true hq_mDs
  have hDs := of_decide_eq_true hq_hDs
  have mDr := of_decide_eq_true hq_mDr
  have hDr := of_decide_eq_true hq_hDr
  have mDa := of_decide_eq_true hq_mDa
  have hDa := of_decide_eq_true hq_hDa
  have mDy := of_decide_eq_true hq_mDy
  have hDy := of_decide_eq_true hq_hDy
  have mDe := of_decide_eq_true hq_mDe
  have hDe := of_decide_eq_true hq_hDe
  have mDz := of_decide_eq_true hq_mDz
  have hDz := of_decide_eq_true hq_hDz
  have mDo := of_decide_eq_true hq_mDo
  have hDo := of_decide_eq_true hq_hDo
  have mDb := of_decide_eq_true hq_mDb
  have hDb := of_decide_eq_true hq_hDb
  have mDc := of_decide_eq_true hq_mDc
  have hDc := of_decide_eq_true hq_hDc
  have mDh := of_decide_eq_true hq_mDh
  have hDh := of_decide_eq_true hq_hDh
  have mSr := of_decide_eq_true hq_mSr
  have hSr := of_decide_eq_true hq_hSr
  have mSd := of_decide_eq_true hq_mSd
  have hSd := of_decide_eq_true hq_hSd
  have mSz := of_decide_eq_true hq_mSz
  have hSz := of_decide_eq_true hq_hSz
  have mSo := of_decide_eq_true hq_mSo
  have hSo := of_decide_eq_true hq_hSo
  have mSu := of_decide_eq_true hq_mSu
  have hSu := of_decide_eq_true hq_hSu
  have mSa := of_decide_eq_true hq_mSa
  have hSa := of_decide_eq_true hq_hSa
  have mSv := of_decide_eq_true hq_mSv
  have hSv := of_decide_eq_true hq_hSv
  have mSl := of_decide_eq_true hq_mSl
  have hSl := of_decide_eq_true hq_hSl
  have mSy := of_decide_eq_true hq_mSy
  have hSy := of_decide_eq_true hq_hSy
  have mSh := of_decide_eq_true hq_mSh
  have hSh := of_decide_eq_true hq_hSh
  have mSk := of_decide_eq_true hq_mSk
  have hSk := of_decide_eq_true hq_hSk
  have mSc := of_decide_eq_true hq_mSc
  have hSc := of_decide_eq_true hq_hSc
  have mSp := of_decide_eq_true hq_mSp
  have hSp := of_decide_eq_true hq_hSp
  have mSg := of_decide_eq_true hq_mSg
  have hSg := of_decide_eq_true hq_hSg
  have mSx := of_decide_eq_true hq_mSx
  have hSx := of_decide_eq_true hq_hSx
  have mSw := of_decide_eq_true hq_mSw
  have hSw := of_decide_eq_true hq_hSw
  have mSq := of_decide_eq_true hq_mSq
  have hSq := of_decide_eq_true hq_hSq
  have qS1 := of_decide_eq_true hq_qS1
  have qS2 := of_decide_eq_true hq_qS2
  have qS3 := of_decide_eq_true hq_qS3
  have qS4 := of_decide_eq_true hq_qS4
  have qS5 := of_decide_eq_true hq_qS5
  have qS6 := of_decide_eq_true hq_qS6
  have nq1 := of_decide_eq_true hq_nq1
  have nq2 := of_decide_eq_true hq_nq2
  have nq3 := of_decide_eq_true hq_nq3
  have nq4 := of_decide_eq_true hq_nq4
  have nq5 := of_decide_eq_true hq_nq5
  have nq6 := of_decide_eq_true hq_nq6
  have tIE := of_decide_eq_true hq_tIE
  obtain ⟨⟨oc1, od1, sl1, kV1, dc1, pm1, an1, cd1, ct1, l1, c1⟩, k1⟩ := fn_at c 0 (d := dn0) rfl
  obtain ⟨⟨oc2, od2, sl2, kV2, dc2, pm2, an2, cd2, ct2, l2, c2⟩, k2⟩ := fn_at c 1 (d := dn1) rfl
  obtain ⟨⟨oc3, od3, sl3, kV3, dc3, pm3, an3, cd3, ct3, l3, c3⟩, k3⟩ := fn_at c 2 (d := dn2) rfl
  obtain ⟨⟨oc4, od4, sl4, kV4, dc4, pm4, an4, cd4, ct4, l4, c4⟩, k4⟩ := fn_at c 3 (d := dn3) rfl
  obtain ⟨⟨oc5, od5, sl5, kV5, dc5, pm5, an5, cd5, ct5, l5, c5⟩, k5⟩ := fn_at c 4 (d := dn4) rfl
  obtain ⟨⟨oc6, od6, sl6, kV6, dc6, pm6, an6, cd6, ct6, l6, c6⟩, k6⟩ := fn_at c 5 (d := dn5) rfl
  obtain ⟨⟨oc7, od7, sl7, kV7, dc7, pm7, an7, cd7, ct7, l7, c7⟩, k7⟩ := fn_at c 6 (d := dn6) rfl
  obtain ⟨⟨oc8, od8, sl8, kV8, dc8, pm8, an8, cd8, ct8, l8, c8⟩, k8⟩ := fn_at c 7 (d := dn7) rfl
  obtain ⟨⟨oc9, od9, sl9, kV9, dc9, pm9, an9, cd9, ct9, l9, c9⟩, k9⟩ := fn_at c 8 (d := dn8) rfl
  obtain ⟨⟨oc10, od10, sl10, kV10, dc10, pm10, an10, cd10, ct10, l10, c10⟩, k10⟩ := fn_at c 9 (d := dn9) rfl
  obtain ⟨⟨oc11, od11, sl11, kV11, dc11, pm11, an11, cd11, ct11, l11, c11⟩, k11⟩ := fn_at c 10 (d := dn10) rfl
  obtain ⟨⟨oc12, od12, sl12, kV12, dc12, pm12, an12, cd12, ct12, l12, c12⟩, k12⟩ := fn_at c 11 (d := dn11) rfl
  obtain ⟨⟨oc13, od13, sl13, kV13, dc13, pm13, an13, cd13, ct13, l13, c13⟩, k13⟩ := fn_at c 12 (d := dn12) rfl
  obtain ⟨⟨oc14, od14, sl14, kV14, dc14, pm14, an14, cd14, ct14, l14, c14⟩, k14⟩ := fn_at c 13 (d := dn13) rfl
  obtain ⟨⟨oc15, od15, sl15, kV15, dc15, pm15, an15, cd15, ct15, l15, c15⟩, k15⟩ := fn_at c 14 (d := dn14) rfl
  obtain ⟨⟨oc16, od16, sl16, kV16, dc16, pm16, an16, cd16, ct16, l16, c16⟩, k16⟩ := fn_at c 15 (d := dn15) rfl
  obtain ⟨⟨oc17, od17, sl17, kV17, dc17, pm17, an17, cd17, ct17, l17, c17⟩, k17⟩ := fn_at c 16 (d := dn16) rfl
  obtain ⟨⟨oc18, od18, sl18, kV18, dc18, pm18, an18, cd18, ct18, l18, c18⟩, k18⟩ := fn_at c 17 (d := dn17) rfl
  obtain ⟨⟨oc19, od19, sl19, kV19, dc19, pm19, an19, cd19, ct19, l19, c19⟩, k19⟩ := fn_at c 18 (d := dn18) rfl
  obtain ⟨⟨oc20, od20, sl20, kV20, dc20, pm20, an20, cd20, ct20, l20, c20⟩, k20⟩ := fn_at c 19 (d := dn19) rfl
  obtain ⟨⟨oc21, od21, sl21, kV21, dc21, pm21, an21, cd21, ct21, l21, c21⟩, k21⟩ := fn_at c 20 (d := dn20) rfl
  obtain ⟨⟨oc22, od22, sl22, kV22, dc22, pm22, an22, cd22, ct22, l22, c22⟩, k22⟩ := fn_at c 21 (d := dn21) rfl
  obtain ⟨⟨oc23, od23, sl23, kV23, dc23, pm23, an23, cd23, ct23, l23, c23⟩, k23⟩ := fn_at c 22 (d := dn22) rfl
  obtain ⟨⟨oc24, od24, sl24, kV24, dc24, pm24, an24, cd24, ct24, l24, c24⟩, k24⟩ := fn_at c 23 (d := dn23) rfl
  obtain ⟨⟨oc25, od25, sl25, kV25, dc25, pm25, an25, cd25, ct25, l25, c25⟩, k25⟩ := fn_at c 24 (d := dn24) rfl
  obtain ⟨⟨oc26, od26, sl26, kV26, dc26, pm26, an26, cd26, ct26, l26, c26⟩, k26⟩ := fn_at c 25 (d := dn25) rfl
  obtain ⟨⟨oc27, od27, sl27, kV27, dc27, pm27, an27, cd27, ct27, l27, c27⟩, k27⟩ := fn_at c 26 (d := dn26) rfl
  obtain ⟨⟨oc28, od28, sl28, kV28, dc28, pm28, an28, cd28, ct28, l28, c28⟩, k28⟩ := fn_at c 27 (d := dn27) rfl
  obtain ⟨⟨oc29, od29, sl29, kV29, dc29, pm29, an29, cd29, ct29, l29, c29⟩, k29⟩ := fn_at c 28 (d := dn28) rfl
  obtain ⟨⟨oc30, od30, sl30, kV30, dc30, pm30, an30, cd30, ct30, l30, c30⟩, k30⟩ := fn_at c 29 (d := dn29) rfl
  obtain ⟨⟨oc31, od31, sl31, kV31, dc31, pm31, an31, cd31, ct31, l31, c31⟩, k31⟩ := fn_at c 30 (d := dn30) rfl
  obtain ⟨⟨oc32, od32, sl32, kV32, dc32, pm32, an32, cd32, ct32, l32, c32⟩, k32⟩ := fn_at c 31 (d := dn31) rfl
  obtain ⟨⟨oc33, od33, sl33, kV33, dc33, pm33, an33, cd33, ct33, l33, c33⟩, k33⟩ := fn_at c 32 (d := dn32) rfl
  obtain ⟨⟨ocOI, odOI, slOI, kVOI, dcOI, pmOI, anOI, cdOI, ctOI, lOI, cOI⟩, kOI⟩ := fn_at c 33 (d := dn33) rfl
  obtain ⟨⟨ocSI, odSI, slSI, kVSI, dcSI, pmSI, anSI, cdSI, ctSI, lSI, cSI⟩, kSI⟩ := fn_at c 34 (d := dn34) rfl
  obtain ⟨⟨ocRI, odRI, slRI, kVRI, dcRI, pmRI, anRI, cdRI, ctRI, lRI, cRI⟩, kRI⟩ := fn_at c 35 (d := dn35) rfl
  obtain ⟨⟨ocCcI, odCcI, slCcI, kVCcI, dcCcI, pmCcI, anCcI, cdCcI, ctCcI, lCcI, cCcI⟩, kCcI⟩ := fn_at c 36 (d := dn36) rfl
  obtain ⟨⟨ocChI, odChI, slChI, kVChI, dcChI, pmChI, anChI, cdChI, ctChI, lChI, cChI⟩, kChI⟩ := fn_at c 37 (d := dn37) rfl
  obtain ⟨⟨ocDkI, odDkI, slDkI, kVDkI, dcDkI, pmDkI, anDkI, cdDkI, ctDkI, lDkI, cDkI⟩, kDkI⟩ := fn_at c 38 (d := dn38) rfl
  obtain ⟨⟨ocStI, odStI, slStI, kVStI, dcStI, pmStI, anStI, cdStI, ctStI, lStI, cStI⟩, kStI⟩ := fn_at c 39 (d := dn39) rfl
  obtain ⟨⟨ocOe, odOe, slOe, kVOe, dcOe, pmOe, anOe, cdOe, ctOe, lOe, cOe⟩, kOe⟩ := fn_at c 40 (d := dn40) rfl
  obtain ⟨⟨ocOn, odOn, slOn, kVOn, dcOn, pmOn, anOn, cdOn, ctOn, lOn, cOn⟩, kOn⟩ := fn_at c 41 (d := dn41) rfl
  obtain ⟨⟨ocOo, odOo, slOo, kVOo, dcOo, pmOo, anOo, cdOo, ctOo, lOo, cOo⟩, kOo⟩ := fn_at c 42 (d := dn42) rfl
  obtain ⟨⟨ocO4, odO4, slO4, kVO4, dcO4, pmO4, anO4, cdO4, ctO4, lO4, cO4⟩, kO4⟩ := fn_at c 43 (d := dn43) rfl
  obtain ⟨⟨ocOi, odOi, slOi, kVOi, dcOi, pmOi, anOi, cdOi, ctOi, lOi, cOi⟩, kOi⟩ := fn_at c 44 (d := dn44) rfl
  obtain ⟨⟨ocSE, odSE, slSE, kVSE, dcSE, pmSE, anSE, cdSE, ctSE, lSE, cSE⟩, kSE⟩ := fn_at c 45 (d := dn45) rfl
  obtain ⟨⟨ocNb, odNb, slNb, kVNb, dcNb, pmNb, anNb, cdNb, ctNb, lNb, cNb⟩, kNb⟩ := fn_at c 46 (d := dn46) rfl
  obtain ⟨⟨ocDn, odDn, slDn, kVDn, dcDn, pmDn, anDn, cdDn, ctDn, lDn, cDn⟩, kDn⟩ := fn_at c 47 (d := dn47) rfl
  obtain ⟨⟨ocDs, odDs, slDs, kVDs, dcDs, pmDs, anDs, cdDs, ctDs, lDs, cDs⟩, kDs⟩ := fn_at c 48 (d := dn48) rfl
  obtain ⟨⟨ocDr, odDr, slDr, kVDr, dcDr, pmDr, anDr, cdDr, ctDr, lDr, cDr⟩, kDr⟩ := fn_at c 49 (d := dn49) rfl
  obtain ⟨⟨ocDa, odDa, slDa, kVDa, dcDa, pmDa, anDa, cdDa, ctDa, lDa, cDa⟩, kDa⟩ := fn_at c 50 (d := dn50) rfl
  obtain ⟨⟨ocDy, odDy, slDy, kVDy, dcDy, pmDy, anDy, cdDy, ctDy, lDy, cDy⟩, kDy⟩ := fn_at c 51 (d := dn51) rfl
  obtain ⟨⟨ocDe, odDe, slDe, kVDe, dcDe, pmDe, anDe, cdDe, ctDe, lDe, cDe⟩, kDe⟩ := fn_at c 52 (d := dn52) rfl
  obtain ⟨⟨ocDz, odDz, slDz, kVDz, dcDz, pmDz, anDz, cdDz, ctDz, lDz, cDz⟩, kDz⟩ := fn_at c 53 (d := dn53) rfl
  obtain ⟨⟨ocDo, odDo, slDo, kVDo, dcDo, pmDo, anDo, cdDo, ctDo, lDo, cDo⟩, kDo⟩ := fn_at c 54 (d := dn54) rfl
  obtain ⟨⟨ocDb, odDb, slDb, kVDb, dcDb, pmDb, anDb, cdDb, ctDb, lDb, cDb⟩, kDb⟩ := fn_at c 55 (d := dn55) rfl
  obtain ⟨⟨ocDc, odDc, slDc, kVDc, dcDc, pmDc, anDc, cdDc, ctDc, lDc, cDc⟩, kDc⟩ := fn_at c 56 (d := dn56) rfl
  obtain ⟨⟨ocDh, odDh, slDh, kVDh, dcDh, pmDh, anDh, cdDh, ctDh, lDh, cDh⟩, kDh⟩ := fn_at c 57 (d := dn57) rfl
  obtain ⟨⟨ocSr, odSr, slSr, kVSr, dcSr, pmSr, anSr, cdSr, ctSr, lSr, cSr⟩, kSr⟩ := fn_at c 58 (d := dn58) rfl
  obtain ⟨⟨ocSd, odSd, slSd, kVSd, dcSd, pmSd, anSd, cdSd, ctSd, lSd, cSd⟩, kSd⟩ := fn_at c 59 (d := dn59) rfl
  obtain ⟨⟨ocSz, odSz, slSz, kVSz, dcSz, pmSz, anSz, cdSz, ctSz, lSz, cSz⟩, kSz⟩ := fn_at c 60 (d := dn60) rfl
  obtain ⟨⟨ocSo, odSo, slSo, kVSo, dcSo, pmSo, anSo, cdSo, ctSo, lSo, cSo⟩, kSo⟩ := fn_at c 61 (d := dn61) rfl
  obtain ⟨⟨ocSu, odSu, slSu, kVSu, dcSu, pmSu, anSu, cdSu, ctSu, lSu, cSu⟩, kSu⟩ := fn_at c 62 (d := dn62) rfl
  obtain ⟨⟨ocSa, odSa, slSa, kVSa, dcSa, pmSa, anSa, cdSa, ctSa, lSa, cSa⟩, kSa⟩ := fn_at c 63 (d := dn63) rfl
  obtain ⟨⟨ocSv, odSv, slSv, kVSv, dcSv, pmSv, anSv, cdSv, ctSv, lSv, cSv⟩, kSv⟩ := fn_at c 64 (d := dn64) rfl
  obtain ⟨⟨ocSl, odSl, slSl, kVSl, dcSl, pmSl, anSl, cdSl, ctSl, lSl, cSl⟩, kSl⟩ := fn_at c 65 (d := dn65) rfl
  obtain ⟨⟨ocSy, odSy, slSy, kVSy, dcSy, pmSy, anSy, cdSy, ctSy, lSy, cSy⟩, kSy⟩ := fn_at c 66 (d := dn66) rfl
  obtain ⟨⟨ocSh, odSh, slSh, kVSh, dcSh, pmSh, anSh, cdSh, ctSh, lSh, cSh⟩, kSh⟩ := fn_at c 67 (d := dn67) rfl
  obtain ⟨⟨ocSk, odSk, slSk, kVSk, dcSk, pmSk, anSk, cdSk, ctSk, lSk, cSk⟩, kSk⟩ := fn_at c 68 (d := dn68) rfl
  obtain ⟨⟨ocSc, odSc, slSc, kVSc, dcSc, pmSc, anSc, cdSc, ctSc, lSc, cSc⟩, kSc⟩ := fn_at c 69 (d := dn69) rfl
  obtain ⟨⟨ocSp, odSp, slSp, kVSp, dcSp, pmSp, anSp, cdSp, ctSp, lSp, cSp⟩, kSp⟩ := fn_at c 70 (d := dn70) rfl
  obtain ⟨⟨ocSg, odSg, slSg, kVSg, dcSg, pmSg, anSg, cdSg, ctSg, lSg, cSg⟩, kSg⟩ := fn_at c 71 (d := dn71) rfl
  obtain ⟨⟨ocSx, odSx, slSx, kVSx, dcSx, pmSx, anSx, cdSx, ctSx, lSx, cSx⟩, kSx⟩ := fn_at c 72 (d := dn72) rfl
  obtain ⟨⟨ocSw, odSw, slSw, kVSw, dcSw, pmSw, anSw, cdSw, ctSw, lSw, cSw⟩, kSw⟩ := fn_at c 73 (d := dn73) rfl
  obtain ⟨⟨ocSq, odSq, slSq, kVSq, dcSq, pmSq, anSq, cdSq, ctSq, lSq, cSq⟩, kSq⟩ := fn_at c 74 (d := dn74) rfl
  obtain ⟨⟨ocE, odE, slE, kVE, dcE, pmE, anE, cdE, ctE, lE, cE⟩, kE⟩ := fn_at c 75 (d := dn75) rfl
  exact all_mk X G hfa a1 l1 c1 k1 a2 l2 c2 k2 a3 l3 c3 k3 a4 l4 c4 k4 a5 l5 c5 k5 a6 l6 c6 k6 a7 l7 c7 k7 a8 l8 c8 k8 a9 l9 c9 k9 a10 l10 c10 k10 a11 l11 c11 k11 a12 l12 c12 k12 a13 l13 c13 k13 a14 l14 c14 k14 a15 l15 c15 k15 a16 l16 c16 k16 a17 l17 c17 k17 a18 l18 c18 k18 a19 l19 c19 k19 a20 l20 c20 k20 a21 l21 c21 k21 a22 l22 c22 k22 a23 l23 c23 k23 a24 l24 c24 k24 a25 l25 c25 k25 a26 l26 c26 k26 a27 l27 c27 k27 a28 l28 c28 k28 a29 l29 c29 k29 a30 l30 c30 k30 a31 l31 c31 k31 a32 l32 c32 k32 a33 l33 c33 k33 z1 z2 z3 z4 z5 z6 z7 z8 z9 z10 z11 z12 z13 z14 z15 z16 z17 z18 z19 z20 g1 g2 g3 g4 g5 g6 g7 g8 g9 g10 g11 g12 g13 g14 g15 g16 g17 g18 g19 eKK lKK eFF lFF xOe xO1 xO2 xO3 xO4 xO5 xO6 xO7 xO8 xOn0 xOn1 lOI cOI kOI xSe xS1 xS2 xS3 xS4 xS5 xS6 xS7 xS8 xSn0 xSn1 lSI cSI kSI xRe xR1 xR2 xR3 xR4 xR5 xR6 xR7 xR8 xRn0 xRn1 xRn2 lRI cRI kRI xCce xCc1 xCc2 xCc3 xCc4 xCc5 xCc6 xCc7 xCc8 xCcn0 xCcn1 lCcI cCcI kCcI xChe xCh1 xCh2 xCh3 xCh4 xCh5 xCh6 xCh7 xCh8 xChn0 lChI cChI kChI xDke xDk1 xDk2 xDk3 xDk4 xDk5 xDk6 xDk7 xDk8 xDkn0 xDkn1 xDkn2 xDkn3 xDkn4 lDkI cDkI kDkI xSte xSt1 xSt2 xSt3 xSt4 xSt5 xSt6 xSt7 xSt8 xStn0 xStn1 xStn2 lStI cStI kStI hn ht eM eC1 xL1 sa1 ga1 gg1 hs1 hd1 ha1 hm1 tyC1 kC1 rd1 fc1 noP1 noN1 iC1 sCC1 eC2 xL2 sa2 ga2 gg2 hs2 hd2 ha2 hm2 tyC2 kC2 rd2 fc2 noP2 noN2 iC2 sCC2 mOe hOe lOe cOe kOe mOn hOn lOn cOn kOn mOo hOo lOo cOo kOo mO4 hO4 lO4 cO4 kO4 mOi hOi lOi cOi kOi mSE hSE lSE cSE kSE mNb hNb lNb cNb kNb mDn hDn lDn cDn kDn mDs hDs lDs cDs kDs mDr hDr lDr cDr kDr mDa hDa lDa cDa kDa mDy hDy lDy cDy kDy mDe hDe lDe cDe kDe mDz hDz lDz cDz kDz mDo hDo lDo cDo kDo mDb hDb lDb cDb kDb mDc hDc lDc cDc kDc mDh hDh lDh cDh kDh mSr hSr lSr cSr kSr mSd hSd lSd cSd kSd mSz hSz lSz cSz kSz mSo hSo lSo cSo kSo mSu hSu lSu cSu kSu mSa hSa lSa cSa kSa mSv hSv lSv cSv kSv mSl hSl lSl cSl kSl mSy hSy lSy cSy kSy mSh hSh lSh cSh kSh mSk hSk lSk cSk kSk mSc hSc lSc cSc kSc mSp hSp lSp cSp kSp mSg hSg lSg cSg kSg mSx hSx lSx cSx kSx mSw hSw lSw cSw kSw mSq hSq lSq cSq kSq qS1 qS2 qS3 qS4 qS5 qS6 nq1 nq2 nq3 nq4 nq5 nq6 lE cE kE tIE
end K2
open PySem PySem.W PyProof.Rows
set_option maxRecDepth 100000 in
set_option maxHeartbeats 0 in
theorem PySem.Challenge.cw_manysides_k59_versions_of_a_store_holds : PySem.Challenge.rw_manysides_k59_versions_of_a_store.Holds := by
  w_on; o_law
  refine HandSHeadRun.head_any (r := K2.hd_R) (q := K2.hd_q) (H := K2.hd_k) (ob := K2.obM K2.fbs K2.fns) (M := 30000) (loose := K2.hd_names) (d := HandSHeadRun.topDef K2.hd_R.prog 76) (kwd := []) (K2.obM_eq K2.fbs K2.fns)
    (by kernel_rfl) (fun s => by kernel_rfl) K2.hd_run (by kernel_rfl) (by kernel_rfl) (by kernel_rfl) (by rfl) (by first | assumption | decide +kernel) (by decide +kernel) ⟨rfl, rfl, rfl, rfl, rfl, by decide +kernel⟩ ?hw ?hc
  case hw => w_witness2
  case hc =>
    refine L2.walk_ofE (l := PySem.Challenge.rw_manysides_k59_versions_of_a_store) (n := 63) (k := 11) (x := "script") (CX := L2.CX0) rfl (by decide) (by kernel_rfl) ⟨rfl, by decide, by decide⟩ ?F (fun _ _ _ _ z => z)
    intro w mg fa h Y G hmg0
    obtain ⟨K, KX, c⟩ := Y
    have hmg : mg ("law" : PySem.Str) = some (.ref fa) := by
      have e : (HandSHeadRun.topDef K2.hd_R.prog 76).name = ("law" : PySem.Str) := by kernel_rfl
      rw [← e]
      exact hmg0
    obtain ⟨fd, hb, hF⟩ := K2.hd_facts (l := PySem.Challenge.rw_manysides_k59_versions_of_a_store) (w := w) KX G hmg c
    exact ⟨K, fd, K2.spLaw K, KX, hb, fun H a ns hl _ hS => ⟨a, ns, rfl, hS, fun _ => rfl⟩, hF⟩
