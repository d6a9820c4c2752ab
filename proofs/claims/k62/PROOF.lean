import PyProof.Rows.All
import Wide.All
import OpenK.AllK
import Wide.FinOn
import HandS.Comp
import HandS.Evl
import HandS.Exc
import HandS.ExcBuiltin
import HandS.ExcCtx
import HandS.ExcField
import HandS.ExcInit
import HandS.ExcInitHot
import HandS.ExcIs
import HandS.ExcOwn
import HandS.ForExc
import HandS.ForMost
import HandS.IsInst
import HandS.List
import HandS.OwnEq
import HandS.RaiseFrom
import HandS.Replace
import HandS.SlotsOwn
import HandS.Star
import HandS.Steps
import HandS.StrMore
import HandS.Strs
import HandS.Style
import HandS.SuiteRaise
import HandS.Text
import HandS.TryOnly
import HandS.TupAny
import HandS.TupLe
import HandS.Walk
import HandS.WideBits
import HandS.WordsExc
import KE.GoesEnum
import KE.GoesMore
import KE.GoesZip
import KE.KExcIs
import KE.KTypeName
import PySem.Challenge.RW_manysides_k62_any_octets_as_a_root
set_option Elab.async false
set_option linter.all false
set_option maxRecDepth 100000
set_option maxHeartbeats 4000000
namespace K2
open PySem L2
def top (i : Nat) : Stmt := PySem.Challenge.pw_manysides_k62_any_octets_as_a_root.main.body.getD i (.Pass ⟨0, 0, 0, 0⟩)
abbrev sWall : Stmt := top 0
abbrev sInit : Stmt := inClass (top 2) 0
abbrev sEncodeText : Stmt := top 13
abbrev sDecodeText : Stmt := top 14
abbrev sIsCode : Stmt := top 15
abbrev sCharacterOf : Stmt := top 16
abbrev sOctetReaderInit : Stmt := inClass (top 19) 0
abbrev sOctetReaderIsAtEnd : Stmt := inClass (top 19) 1
abbrev sOctetReaderNextOctets : Stmt := inClass (top 19) 2
abbrev sOctetReaderNextOctetOf : Stmt := inClass (top 19) 3
abbrev sOctetReaderNextNumber : Stmt := inClass (top 19) 4
abbrev sOctetReaderNextNumberIn : Stmt := inClass (top 19) 5
abbrev sOctetReaderNextSigned : Stmt := inClass (top 19) 6
abbrev sOctetReaderNextFour : Stmt := inClass (top 19) 7
abbrev sOctetReaderNextFourIn : Stmt := inClass (top 19) 8
abbrev sOctetReaderNextBits : Stmt := inClass (top 19) 9
abbrev sShInit : Stmt := inClass (top 28) 0
abbrev sShEq : Stmt := inClass (top 28) 1
abbrev sCheckShape : Stmt := top 29
abbrev sIsDim : Stmt := top 30
abbrev sIsAttr : Stmt := top 31
abbrev sIsSimpleName : Stmt := top 32
abbrev sRootInit : Stmt := inClass (top 38) 0
abbrev sRootEq : Stmt := inClass (top 38) 1
abbrev sSumOf : Stmt := top 39
abbrev sWriteFour : Stmt := top 40
abbrev sWriteName : Stmt := top 41
abbrev sEncodeRoot : Stmt := top 42
abbrev sWriteShape : Stmt := top 43
abbrev sWriteChunks : Stmt := top 44
abbrev sDecodeRoot : Stmt := top 45
abbrev sReadArrays : Stmt := top 46
abbrev sReadName : Stmt := top 47
abbrev sReadShape : Stmt := top 48
abbrev sReadDim : Stmt := top 49
abbrev sReadAttr : Stmt := top 50
abbrev sReadChunks : Stmt := top 51
abbrev sDraw : Stmt := top 53
abbrev sShape : Stmt := top 54
abbrev sLChunks : Stmt := top 55
abbrev sLRoot : Stmt := top 56
abbrev sLFail : Stmt := top 57
abbrev sLTake : Stmt := top 58
abbrev sLChar : Stmt := top 59
abbrev sNumber : Stmt := top 60
abbrev sLName : Stmt := top 61
abbrev sLReadShape : Stmt := top 62
abbrev sLReadChunks : Stmt := top 63
abbrev sLRead : Stmt := top 64
abbrev sLDue : Stmt := top 65
abbrev sTold : Stmt := top 66
abbrev sLaw : Stmt := top 67
end K2

namespace K2
open PySem L2
/-! ### heaps -/
theorem same_new {H : Hp} {p : Addr} {o : HO} (h : H p = none) : Same H (upd H p o) := fun b x e => by
  rw [upd_ne (ne_of_none e h)]
  exact e
theorem same_put {H H1 : Hp} {p : Addr} {o : HO} (s : Same H H1) (h : H p = none) : Same H (upd H1 p o) := fun b x e => by
  rw [upd_ne (ne_of_none e h)]
  exact s b x e
theorem iteB {b : Bool} {A B : Prop} (e : b = true) (h : A) : if b = true then A else B := by
  rw [if_pos e]
  exact h
theorem iteBF {b : Bool} {A B : Prop} (e : b = false) (h : B) : if b = true then A else B := by
  subst e
  exact iteF h
theorem str_eq (a b : Str) : decide (V.str a = V.str b) = decide (a = b) := by
  by_cases e : a = b
  · subst e
    rw [decide_eq_true rfl, decide_eq_true rfl]
  · rw [decide_eq_false e, decide_eq_false fun h => e (V.str.inj h)]
/-- all that is outside of F stays -/
def Out (F : Addr → Prop) (H H1 : Hp) : Prop := ∀ c o, H c = some o → ¬ F c → H1 c = some o
theorem Out.refl {F : Addr → Prop} {H : Hp} : Out F H H := fun _ _ h _ => h
theorem Same.out {F : Addr → Prop} {H H1 : Hp} (s : Same H H1) : Out F H H1 := fun c o h _ => s c o h
/-- F1 has but what F has, and what was free -/
def Gw (F F1 : Addr → Prop) (H : Hp) : Prop := ∀ c, F1 c → F c ∨ H c = none
theorem Gw.refl {F : Addr → Prop} {H : Hp} : Gw F F H := fun _ h => .inl h
theorem Out.trans {F F1 : Addr → Prop} {H H1 H2 : Hp} (a : Out F H H1) (g : Gw F F1 H) (b : Out F1 H1 H2) : Out F H H2 := fun c o h n => by
  refine b c o (a c o h n) fun z => ?_
  rcases g c z with y | y
  · exact n y
  · rw [y] at h
    cases h
theorem Gw.trans {F F1 F2 : Addr → Prop} {H H1 : Hp} (g : Gw F F1 H) (a : Out F H H1) (k : Gw F1 F2 H1) : Gw F F2 H := fun c h => by
  rcases k c h with y | y
  · exact g c y
  · cases e : H c with
    | none => exact .inr rfl
    | some o =>
      refine .inl ?_
      apply Classical.byContradiction
      intro n
      rw [a c o e n] at y
      cases y
theorem Out.upd {F : Addr → Prop} {H H1 : Hp} {p : Addr} {o : HO} (a : Out F H H1) (h : F p ∨ H p = none) : Out F H (upd H1 p o) := fun c x e n => by
  rw [upd_ne]
  · exact a c x e n
  · intro z
    rcases h with h | h
    · exact n (z ▸ h)
    · rw [z, h] at e
      cases e
theorem Out.free {F : Addr → Prop} {H H1 : Hp} (a : Out F H H1) (hF : ∀ c, F c → H1 c ≠ none) {p : Addr} (h : H1 p = none) : H p = none := by
  cases e : H p with
  | none => rfl
  | some o =>
    have n : ¬ F p := fun z => hF p z h
    rw [a p o e n] at h
    cases h
/-! ### rows of tuples -/
def Rows (H : Hp) (xs : List V) (rs : List (List V)) : Prop := xs.length = rs.length ∧ ∀ (i : Nat) (r : List V), rs[i]? = some r → ∃ a, xs[i]? = some (V.ref a) ∧ H a = some (.tup r)
theorem Rows.keep {H H1 : Hp} {xs : List V} {rs : List (List V)} (h : Rows H xs rs) (e : ∀ a r, H a = some (.tup r) → H1 a = some (.tup r)) : Rows H1 xs rs := ⟨h.1, fun i r hr => let ⟨a, h1, h2⟩ := h.2 i r hr; ⟨a, h1, e _ _ h2⟩⟩
theorem Rows.nil {H : Hp} : Rows H [] [] := ⟨rfl, fun i r h => by simp at h⟩
theorem Rows.push {H : Hp} {xs : List V} {rs : List (List V)} {a : Addr} {r : List V} (h : Rows H xs rs) (e : H a = some (.tup r)) : Rows H (xs ++ [V.ref a]) (rs ++ [r]) := by
  refine ⟨by rw [List.length_append, List.length_append, h.1]; rfl, fun i q hq => ?_⟩
  rcases Nat.lt_trichotomy i rs.length with hi | hi | hi
  · rw [List.getElem?_append_left hi] at hq
    obtain ⟨b, h1, h2⟩ := h.2 i q hq
    exact ⟨b, by rw [List.getElem?_append_left (by rw [h.1]; exact hi)]; exact h1, h2⟩
  · subst hi
    rw [List.getElem?_append_right (Nat.le_refl _), Nat.sub_self] at hq
    have : r = q := Option.some.inj hq
    subst this
    exact ⟨a, by rw [List.getElem?_append_right (Nat.le_of_eq h.1), h.1, Nat.sub_self]; rfl, e⟩
  · rw [List.getElem?_eq_none (by rw [List.length_append, List.length_singleton]; omega)] at hq
    cases hq
theorem Rows.take {H : Hp} {xs : List V} {rs : List (List V)} (h : Rows H xs rs) (n : Nat) : Rows H (xs.take n) (rs.take n) := by
  refine ⟨by rw [List.length_take, List.length_take, h.1], fun i r hr => ?_⟩
  by_cases hi : i < n
  · rw [List.getElem?_take_of_lt hi] at hr ⊢
    exact h.2 i r hr
  · rw [List.getElem?_eq_none (by rw [List.length_take]; omega)] at hr
    cases hr
/-! ### tables: names and numbers, in order -/
abbrev Tb := List (Str × Nat)
def tput (t : Tb) (n : Str) (i : Nat) : Tb := if (t.any fun p => decide (p.1 = n)) = true then t.map (fun p => if p.1 = n then (p.1, i) else p) else t ++ [(n, i)]
def tget (t : Tb) (n : Str) : Option Nat := (t.find? fun p => decide (p.1 = n)).map (·.2)
def tdrop (t : Tb) (n : Str) : Tb := t.filter fun p => decide (p.1 ≠ n)
def mp (g : Nat → V) (t : Tb) : List (Key × V) := t.map fun p => ((Sum.inr p.1 : Key), g p.2)
theorem inr_eq {a b : Str} : ((Sum.inr a : Key) = Sum.inr b) ↔ a = b := ⟨fun h => Sum.inr.inj h, fun h => by rw [h]⟩
theorem dinr (a b : Str) : decide ((Sum.inr a : Key) = Sum.inr b) = decide (a = b) := decide_eq_decide.mpr inr_eq
theorem mp_get (g : Nat → V) (t : Tb) (n : Str) : valV (mp g t) (Sum.inr n) = (tget t n).map g := by
  unfold valV mp tget
  rw [List.find?_map]
  show Option.map _ (Option.map _ (t.find? fun p => decide ((Sum.inr p.1 : Key) = Sum.inr n))) = _
  rw [show (fun p : Str × Nat => decide ((Sum.inr p.1 : Key) = Sum.inr n)) = fun p => decide (p.1 = n) from funext fun p => dinr _ _]
  cases t.find? (fun p => decide (p.1 = n)) <;> rfl
theorem mp_put (g : Nat → V) (t : Tb) (n : Str) (i : Nat) : putK (mp g t) (Sum.inr n) (g i) = mp g (tput t n i) := by
  have e : ((mp g t).any fun kv => decide (kv.1 = (Sum.inr n : Key))) = t.any fun p => decide (p.1 = n) := by
    unfold mp
    rw [List.any_map]
    exact congrArg (fun f => t.any f) (funext fun p => dinr _ _)
  unfold putK tput
  rw [e]
  by_cases c : (t.any fun p => decide (p.1 = n)) = true
  · rw [if_pos c, if_pos c]
    unfold mp
    rw [List.map_map, List.map_map]
    refine List.map_congr_left fun p _ => ?_
    show (if (Sum.inr p.1 : Key) = Sum.inr n then _ else _) = _
    by_cases h : p.1 = n
    · rw [if_pos (inr_eq.mpr h)]
      show _ = ((Sum.inr (if p.1 = n then (p.1, i) else p).1 : Key), g (if p.1 = n then (p.1, i) else p).2)
      rw [if_pos h]
    · rw [if_neg fun z => h (inr_eq.mp z)]
      show _ = ((Sum.inr (if p.1 = n then (p.1, i) else p).1 : Key), g (if p.1 = n then (p.1, i) else p).2)
      rw [if_neg h]
  · rw [if_neg c, if_neg c]
    unfold mp
    rw [List.map_append]
    rfl
theorem mp_drop (g : Nat → V) (t : Tb) (n : Str) : dropK (mp g t) (Sum.inr n) = mp g (tdrop t n) := by
  unfold dropK mp tdrop
  rw [List.filter_map]
  congr 1
  refine List.filter_congr fun p _ => ?_
  exact decide_eq_decide.mpr (not_congr inr_eq)
theorem mp_len (g : Nat → V) (t : Tb) : (mp g t).length = t.length := List.length_map _
theorem tput_len (t : Tb) (n : Str) (i : Nat) : (tput t n i).length ≤ t.length + 1 := by
  unfold tput
  split
  · rw [List.length_map]; omega
  · rw [List.length_append]; exact Nat.le_refl _
inductive Cg where
  | make (n : Str) (i : Nat)
  | ren (a b : Str) (i : Nat)
  | rem (a : Str)
def mv (t : Tb) : Cg → Tb
  | .make n i => tput t n i
  | .ren a b i => tput (tdrop t a) b i
  | .rem a => tdrop t a
def okC (t : Tb) : Cg → Prop
  | .make _ _ => True
  | .ren a _ i => tget t a = some i
  | .rem a => ∃ i, tget t a = some i
def run (t : Tb) (cs : List Cg) : Tb := cs.foldl mv t
theorem run_snoc (t : Tb) (cs : List Cg) (c : Cg) : run t (cs ++ [c]) = mv (run t cs) c := by
  unfold run
  rw [List.foldl_append]
  rfl
end K2

namespace K2
open PySem L2
/-! ### classes -/
structure KC (K : PySem.W.Frag) (C fI : Addr) (fs : List Str) : Prop where
  mkC : Mk K C fI
  cl : Cls K C
  na : ∀ f ∈ fs, NoAttr K C f
theorem mk_same {H H1 : Hp} {x dx : Addr} {a b : HO} (nx : H x = none) (ndx : H dx = none) (k : ∀ c o, (upd (upd H dx a) x b) c = some o → c ≠ x → H1 c = some o) : Same H H1 := fun c o h =>
  k c o (by rw [upd_ne (ne_of_none h nx), upd_ne (ne_of_none h ndx)]; exact h) (ne_of_none h nx)
structure Nm (mg : Str → Option Value) : Prop where
  range : mg "range" = none
  int : mg "int" = none
  len : mg "len" = none
  isinstance : mg "isinstance" = none
  bool : mg "bool" = none
  str : mg "str" = none
  min : mg "min" = none
  max : mg "max" = none
  sum : mg "sum" = none
  abs : mg "abs" = none
  enumerate : mg "enumerate" = none
  tuple : mg "tuple" = none
  list : mg "list" = none
  sorted : mg "sorted" = none
  zip : mg "zip" = none
  reversed : mg "reversed" = none
  dict : mg "dict" = none
  ve : mg "ValueError" = none
theorem isE_map (l : List Int) : (l.map V.int).isEmpty = l.isEmpty := by cases l <;> rfl
theorem ps_dead {X : Cx} {st : Stmt} : PS X st (fun _ _ _ => False) := ⟨fun _ _ _ _ _ _ h => h.elim⟩
theorem pss_dead {X : Cx} {l : List Stmt} : PSs X l (fun _ _ _ => False) := ⟨fun _ _ _ _ _ _ h => h.elim⟩
end K2

namespace K2
open PySem L2
def SAt (H : Hp) (S : Addr) : Prop := ∃ x y : Int, H S = some (.lst [.int x, .int y])
theorem SqL.keepS {K : PySem.W.Frag} {H H1 : Hp} {a : Addr} {xs : List V} (h : SqL K H a xs) (k : ∀ o, H a = some o → H1 a = some o) : SqL K H1 a xs := by
  rcases h with (h | ⟨o, h⟩) | h
  · exact .inl (.inl (k _ h))
  · exact .inl (.inr ⟨o, k _ h⟩)
  · exact .inr h
section
variable {P : Program} {w : World} {K : PySem.W.Frag} {mg : Str → Option Value} {base : Heap}
def spDraw (K : PySem.W.Frag) : Sp := fun vs H Q _ => ∃ (S scr : Addr) (b : Int) (ns : List Int), vs = [.ref S, .ref scr, .int b] ∧ 0 < b ∧ b < 1000000 ∧ SAt H S ∧ SqL K H scr (ns.map V.int) ∧
  ∀ H' v, (∀ a o, H a = some o → a ≠ S → H' a = some o) → SAt H' S → 0 ≤ v → v < b → Q (.int v) H'
theorem scDraw : FnScope ["state", "script", "size", "cell", "digit"] ["state", "script", "size"] (defScope sDraw) := ⟨rfl, rfl, rfl, by decide +kernel, rfl, by decide +kernel, by decide +kernel⟩
theorem ok_draw {f : Addr} {fd : FuncData} (F : Fun K "_law_draw" "_law_draw" sDraw f fd) (N : Nm mg) : FnOk P w K mg base CX0 1 f fd ["state", "script", "size"] (spDraw K) := by
  refine F.ok scDraw (fun vs H Q E h => ?_) (fun cdv A outer s H vs Q E hr h => ?_)
  · obtain ⟨S, scr, b, ns, rfl, _⟩ := h
    rfl
  · obtain ⟨S, scr, b, ns, rfl, b0, b1, ⟨x, y, hS⟩, hs, q⟩ := h
    refine ⟨_, Evl.pss_cut (ps_if (pt_cmpR op_eq (pe_ix ix_list (pv 0) pe_int (fun _ _ => rfl)) pe_int (nomark _))
        (pss_cons (ps_set (i := 3) scDraw.nd rfl (.inl rfl) pe_int)
        (Evl.pss_cut (ps_if (pt_cmpR op_gt (pe_callB call_len_seq (by rfl) N.len PySem.boot_len (pa_cons (pv 1) pa_nil)) pe_int (nomark _))
          (pss_one (ps_set (i := 3) scDraw.nd rfl (.inl rfl) (pe_callTy call_int1 (by rfl) N.int (by decide +kernel) (pa_cons (pe_ix ix_list (pv 1) (pe_op op_mod (pe_ix ix_list (pv 0) pe_int (fun _ _ => rfl)) (pe_callB call_len_seq (by rfl) N.len PySem.boot_len (pa_cons (pv 1) pa_nil))) (fun _ _ => rfl)) pa_nil)))) pss_nil)
        (pss_cons (ps_asg (pe_op op_mod (pe_op op_mul (pe_op op_add (pe_op op_add (pe_op op_mul (pe_callB call_abs (by rfl) N.abs (by decide +kernel) (pa_cons (pv 3) pa_nil)) pe_int) (pe_op op_mul (pe_ix ix_list (pv 0) pe_int (fun _ _ => rfl)) pe_int)) pe_int) pe_int) pe_int) (pg_sub (pv 0) pe_int set_list))
        (pss_one (ps_asg (pe_op op_add (pe_ix ix_list (pv 0) pe_int (fun _ _ => rfl)) pe_int) (pg_sub (pv 0) pe_int set_list)))))) pss_nil)
      (pss_cons (ps_set (i := 4) scDraw.nd rfl (.inl rfl) (pe_op op_mod (pe_callTy call_int1 (by rfl) N.int (by decide +kernel) (pa_cons (pe_ix ix_list (pv 0) pe_int (fun _ _ => rfl)) pa_nil)) (pv 2)))
      (pss_cons (ps_asg (pe_op op_fdiv (pe_ix ix_list (pv 0) pe_int (fun _ _ => rfl)) (pv 2)) (pg_sub (pv 0) pe_int set_list))
      (pss_one (ps_ret (pv 4))))), ?_⟩
    refine ⟨fun σ H1 => ∃ y3 x1 y1, σ = [some (.ref S), some (.ref scr), some (.int b), y3, none] ∧ (∀ a o, H a = some o → a ≠ S → H1 a = some o) ∧ H1 S = some (.lst [.int x1, .int y1]), ?_, ?_⟩
    · refine ⟨_, rfl, S, _, 1, .int y, rfl, rfl, .inl (.inl hS), rfl, rfl, _, rfl, ?_⟩
      by_cases hy : y = 0
      · refine iteB (decide_eq_true (by rw [hy])) ?_
        refine ⟨fun σ H1 => ∃ c : Int, σ = [some (.ref S), some (.ref scr), some (.int b), some (.int c), none] ∧ H1 = H, ?_, ?_⟩
        · refine ⟨_, rfl, scr, _, rfl, .inl hs, _, _, rfl, rfl, _, rfl, ?_⟩
          rw [List.length_map]
          by_cases hl : ns.length = 0
          · refine iteBF (decide_eq_false (by omega)) ⟨0, rfl, rfl⟩
          · refine iteB (decide_eq_true (by omega)) ?_
            have h1 : 0 ≤ x % (ns.length : Int) := Int.emod_nonneg _ (by omega)
            have h2 : x % (ns.length : Int) < ns.length := Int.emod_lt_of_pos _ (by omega)
            obtain ⟨j, hj⟩ : ∃ j : Nat, x % (ns.length : Int) = (j : Int) := ⟨(x % (ns.length : Int)).toNat, by omega⟩
            have hjl : j < ns.length := by omega
            refine ⟨_, rfl, _, rfl, S, _, 0, .int x, rfl, rfl, .inl (.inl hS), rfl, _, rfl, scr, _, rfl, .inl hs, x, (ns.length : Int), rfl, by rw [List.length_map], by omega, scr, _, _, .int ns[j], rfl, rfl, hs, ?_, .inl ⟨_, rfl, _, rfl, rfl⟩⟩
            rw [hj]
            exact atI_nat (by rw [List.getElem?_map, List.getElem?_eq_getElem hjl]; rfl)
        · rintro σ H1 ⟨c, rfl, rfl⟩
          refine ⟨_, rfl, c, rfl, _, _, rfl, rfl, .inr ⟨by decide, by decide⟩, ?_⟩
          refine ⟨_, rfl, S, _, 0, .int x, rfl, rfl, .inl (.inl hS), rfl, _, _, rfl, rfl, .inr ⟨by decide, by decide⟩, ?_⟩
          refine ⟨_, _, rfl, rfl, _, _, rfl, rfl, _, _, rfl, rfl, .inr ⟨by decide, by decide⟩, _, _, rfl, rfl, (by show (0 : Int) < 4294967291; decide), ?_⟩
          refine ⟨_, rfl, S, _, 1, 1, rfl, rfl, hS, rfl, ?_⟩
          refine ⟨_, rfl, S, _, 0, .int x, rfl, rfl, .inl (.inl upd_same), rfl, _, _, rfl, rfl, _, rfl, S, _, 0, 0, rfl, rfl, upd_same, rfl, ?_⟩
          exact ⟨_, _, _, rfl, fun a o h n => by rw [upd_ne n, upd_ne n]; exact h, upd_same⟩
      · refine iteBF (decide_eq_false fun z => hy (V.int.inj z)) ⟨none, x, y, rfl, fun a o h n => h, hS⟩
    · rintro σ H1 ⟨y3, x1, y1, rfl, k1, h1⟩
      refine ⟨_, rfl, S, _, 1, .int y1, rfl, rfl, .inl (.inl h1), rfl, .inl ⟨y1, rfl, _, rfl, y1, b, rfl, rfl, b0, ?_⟩⟩
      refine ⟨_, rfl, S, _, 1, .int y1, rfl, rfl, .inl (.inl h1), rfl, _, rfl, y1, b, rfl, rfl, ⟨b0, by omega⟩, _, rfl, S, _, 1, 1, rfl, rfl, h1, rfl, ?_⟩
      refine ⟨_, rfl, q _ _ (fun a o h n => by rw [upd_ne n]; exact k1 _ _ h n) ⟨x1, _, upd_same⟩ (Int.emod_nonneg _ (by omega)) (Int.emod_lt_of_pos _ b0)⟩
end
end K2

namespace K2
open PySem L2
def nmo (n : Str) : List Int := n.cps.toList.map fun (c : Nat) => (c : Int)
def w4 (n : Int) : List Int := [n / 16777216 % 256, n / 65536 % 256, n / 256 % 256, n % 256]
def wn (n : Str) : List Int := (n.length : Int) :: nmo n
/-- two sums, octet by octet -/
def sm (a : Int × Int) (o : Int) : Int × Int := ((a.1 + o) % 65521, (a.2 + (a.1 + o) % 65521) % 65521)
def sumO (os : List Int) : Int := let r := os.foldl sm (1, 0); r.2 * 65536 + r.1
theorem nmo_len (n : Str) : (nmo n).length = n.length := by
  unfold nmo
  rw [List.length_map]
  rfl
structure Ct (mg : Str → Option Value) : Prop where
  sm : ∃ v, mg "SUM_MODULUS" = some v ∧ RelV (.int 65521) v
section
variable {P : Program} {w : World} {K : PySem.W.Frag} {mg : Str → Option Value} {base : Heap}
def spEnc : Sp := fun vs H Q _ => ∃ n : Str, vs = [.str n] ∧ n.length ≤ 1000 ∧ ∀ H' p, Same H H' → H p = none → H' p = some (.lst ((nmo n).map V.int)) → Q (.ref p) H'
theorem scEnc : FnScope ["text", "character"] ["text"] (defScope sEncodeText) := ⟨rfl, rfl, rfl, by decide +kernel, rfl, by decide +kernel, by decide +kernel⟩
theorem ord_step {n : Str} {i : Nat} {c : Nat} (h : n.cps[i]? = some c) : (nmo n).take (i + 1) = (nmo n).take i ++ [(c : Int)] := by
  rw [List.take_add_one]
  congr 1
  unfold nmo
  rw [List.getElem?_map, Array.getElem?_toList, h]
  rfl
theorem ok_enc {f : Addr} {fd : FuncData} (F : Fun K "encode_text" "encode_text" sEncodeText f fd) (N : Nm mg) (go : mg "ord" = none) : FnOk P w K mg base CX0 1 f fd ["text"] spEnc := by
  refine F.ok scEnc (fun vs H Q E h => ?_) (fun cdv A outer s H vs Q E hr h => ?_)
  · obtain ⟨n, rfl, _⟩ := h
    rfl
  · obtain ⟨n, rfl, hl, q⟩ := h
    refine ⟨_, pss_one (ps_ret (pe_lc (own := [("character", 1)]) (g := gName 1) (tt := tYes) rfl scEnc.nd (pi_str (pv 0)) (blkOk_by (N := ["text", "character"]) (sc := defScope sEncodeText) (by decide +kernel))
      (fun _ _ _ _ _ => pg_name (i := 1) scEnc.nd rfl (Or.inl rfl)) (fun _ _ _ _ _ => pts_nil) (fun _ _ _ _ _ => pe_callB call_ord (by rfl) go (by decide +kernel) (pa_cons (pv 1) pa_nil)))), ?_⟩
    refine ⟨_, rfl, n, rfl, fun D nD => ?_⟩
    refine lc_it walk_str (fun i H3 => Same H H3 ∧ H3 D = some (.lst (((nmo n).take i).map V.int))) ⟨same_new nD, upd_same⟩ (fun _ _ _ _ => trivial) ?_ ?_
    · rintro i x H3 H' hi ⟨sm, hD⟩ ⟨rfl, c, hc, rfl⟩
      refine ⟨rfl, ?_⟩
      dsimp only [tYes]
      rw [if_pos rfl]
      refine ⟨_, rfl, _, rfl, rfl, _, hD, ?_, same_put sm nD, ?_⟩
      · rw [List.length_map, List.length_take, nmo_len]
        exact small1000 (by omega)
      · rw [upd_same, ord_step hc, List.map_append]
        rfl
    · rintro H3 ⟨sm, hD⟩
      rw [show n.cps.size = (nmo n).length from (nmo_len n).symm, List.take_length] at hD
      exact q H3 D sm nD hD
def spW4 : Sp := fun vs H Q _ => ∃ n : Int, vs = [.int n] ∧ ∀ p, H p = none → Q (.ref p) (upd H p (.lst ((w4 n).map V.int)))
theorem scW4 : FnScope ["number"] ["number"] (defScope sWriteFour) := ⟨rfl, rfl, rfl, by decide +kernel, rfl, by decide +kernel, by decide +kernel⟩
theorem ok_w4 {f : Addr} {fd : FuncData} (F : Fun K "write_four" "write_four" sWriteFour f fd) : FnOk P w K mg base CX0 1 f fd ["number"] spW4 := by
  refine F.ok scW4 (fun vs H Q E h => ?_) (fun cdv A outer s H vs Q E hr h => ?_)
  · obtain ⟨n, rfl, _⟩ := h
    rfl
  · obtain ⟨n, rfl, q⟩ := h
    refine ⟨_, pss_one (ps_ret (pe_lst (pa_cons (pe_op op_andM (pe_op op_shr (pv 0) pe_int) pe_int) (pa_cons (pe_op op_andM (pe_op op_shr (pv 0) pe_int) pe_int) (pa_cons (pe_op op_andM (pe_op op_shr (pv 0) pe_int) pe_int) (pa_cons (pe_op op_andM (pv 0) pe_int) pa_nil)))))), ?_⟩
    exact ⟨_, rfl, _, _, rfl, rfl, (by show (0 : Int) ≤ 24; decide), _, 8, rfl, rfl, _, rfl, _, _, rfl, rfl, (by show (0 : Int) ≤ 16; decide), _, 8, rfl, rfl, _, rfl, _, _, rfl, rfl, (by show (0 : Int) ≤ 8; decide), _, 8, rfl, rfl, _, rfl, _, 8, rfl, rfl, (by show 4 ≤ sizeLine; decide), fun p np => q p np⟩
def spWN : Sp := fun vs H Q _ => ∃ n : Str, vs = [.str n] ∧ n.length ≤ 900 ∧ ∀ H' p, Same H H' → H p = none → H' p = some (.lst ((wn n).map V.int)) → Q (.ref p) H'
theorem scWN : FnScope ["name"] ["name"] (defScope sWriteName) := ⟨rfl, rfl, rfl, by decide +kernel, rfl, by decide +kernel, by decide +kernel⟩
theorem ok_wn {f fE : Addr} {fd fdE : FuncData} (F : Fun K "write_name" "write_name" sWriteName f fd) (N : Nm mg) (go : mg "ord" = none) (FE : Fun K "encode_text" "encode_text" sEncodeText fE fdE) (bE : Binds K fdE ["text"] []) (gE : mg "encode_text" = some (.ref fE)) : FnOk P w K mg base CX0 2 f fd ["name"] spWN := by
  have GE : FnOk P w K mg base CX0 1 fE fdE ["text"] spEnc := ok_enc FE N go
  refine F.ok scWN (fun vs H Q E h => ?_) (fun cdv A outer s H vs Q E hr h => ?_)
  · obtain ⟨n, rfl, _⟩ := h
    rfl
  · obtain ⟨n, rfl, hl, q⟩ := h
    refine ⟨_, pss_one (ps_ret (pe_op op_cat (pe_lst (pa_cons (pe_callB call_len_str (by rfl) N.len PySem.boot_len (pa_cons (pv 0) pa_nil)) pa_nil)) (pe_call GE hr (by rfl) gE FE.kp bE .nil pass0 (pa_cons (pv 0) pa_nil)))), ?_⟩
    refine ⟨_, rfl, n, rfl, Nat.le_of_lt (small1000 (by omega)), (by show 1 ≤ sizeLine; decide), fun p1 n1 => ?_⟩
    refine ⟨_, rfl, n, rfl, by omega, fun H2 p2 s2 n2 e2 => ?_⟩
    have e1 := s2 _ _ (upd_same (H := H) (a := p1) (o := .lst [.int (n.length : Int)]))
    refine ⟨p1, p2, _, _, rfl, rfl, e1, e2, ?_, fun p np => q _ p ((same_new n1).trans (s2.trans (same_new np))) ((same_new n1).free (s2.free np)) ?_⟩
    · rw [List.length_map, nmo_len]
      exact Nat.le_of_lt (small1000 (by show 1 + _ ≤ _; omega))
    · rw [upd_same]
      rfl
end
end K2

namespace K2
open PySem L2
def smT (os : List Int) (i : Nat) : Int × Int := (os.take i).foldl sm (1, 0)
theorem smT_succ {os : List Int} {i : Nat} (h : i < os.length) : smT os (i + 1) = sm (smT os i) os[i] := by
  unfold smT
  rw [List.take_add_one, List.getElem?_eq_getElem h, List.foldl_append]
  rfl
theorem smT_end (os : List Int) : smT os os.length = os.foldl sm (1, 0) := by
  unfold smT
  rw [List.take_length]
section
variable {P : Program} {w : World} {K : PySem.W.Frag} {mg : Str → Option Value} {base : Heap}
def spSum (K : PySem.W.Frag) : Sp := fun vs H Q _ => ∃ (a : Addr) (os : List Int), vs = [.ref a] ∧ SqL K H a (os.map V.int) ∧ Q (.int (sumO os)) H
theorem scSum : FnScope ["octets", "first", "second", "octet"] ["octets"] (defScope sSumOf) := ⟨rfl, rfl, rfl, by decide +kernel, rfl, by decide +kernel, by decide +kernel⟩
theorem ok_sum {f : Addr} {fd : FuncData} (F : Fun K "sum_of" "sum_of" sSumOf f fd) (C : Ct mg) : FnOk P w K mg base CX0 1 f fd ["octets"] (spSum K) := by
  refine F.ok scSum (fun vs H Q E h => ?_) (fun cdv A outer s H vs Q E hr h => ?_)
  · obtain ⟨a, os, rfl, _⟩ := h
    rfl
  · obtain ⟨a, os, rfl, ha, q⟩ := h
    obtain ⟨v, mv, rv⟩ := C.sm
    refine ⟨_, pss_cons (ps_set (i := 1) scSum.nd rfl (.inl rfl) pe_int) (pss_cons (ps_set (i := 2) scSum.nd rfl (.inl rfl) pe_int)
      (pss_cons (ps_for PassesOwn.never rfl (pi_list (pv 0)) (pg_name (i := 3) scSum.nd rfl (.inl rfl))
        (pss_cons (ps_set (i := 1) scSum.nd rfl (.inl rfl) (pe_op op_mod (pe_op op_add (pv 1) (pv 3)) (pe_glob (by rfl) mv rv)))
        (pss_one (ps_set (i := 2) scSum.nd rfl (.inl rfl) (pe_op op_mod (pe_op op_add (pv 2) (pv 1)) (pe_glob (by rfl) mv rv))))))
      (pss_one (ps_ret (pe_op op_add (pe_op op_mul (pv 2) pe_int) (pv 1)))))), ?_⟩
    refine ⟨_, rfl, a, rfl, ⟨_, ha⟩, for_it (walk_list (xs := os.map V.int)) (fun i σ H2 => ∃ y3, σ = [some (.ref a), some (.int (smT os i).1), some (.int (smT os i).2), y3] ∧ H2 = H) ⟨none, rfl, rfl⟩ ?_ ?_ ?_⟩
    · rintro i σ H2 hi ⟨y3, rfl, rfl⟩
      exact ha
    · rintro i x σ H2 H' hi ⟨y3, rfl, rfl⟩ ⟨rfl, hx⟩
      rw [List.length_map] at hi
      rw [List.getElem?_map, List.getElem?_eq_getElem hi] at hx
      obtain rfl := Option.some.inj hx
      rw [smT_succ hi]
      exact ⟨_, rfl, _, rfl, _, _, rfl, rfl, _, _, rfl, rfl, (by show (0 : Int) < 65521; decide), _, rfl, _, rfl, _, _, rfl, rfl, _, _, rfl, rfl, (by show (0 : Int) < 65521; decide), _, rfl, rfl⟩
    · rintro σ H2 ⟨y3, rfl, rfl⟩
      rw [List.length_map, smT_end]
      exact ⟨_, rfl, _, _, rfl, rfl, .inr ⟨by decide, by decide⟩, _, rfl, _, _, rfl, rfl, q⟩
end
end K2

namespace K2
open PySem L2
/-! ### what a root holds -/
structure D where
  n : Str
  l : Int
  h : Int
  s : Int
structure T where
  n : Str
  k : Str
structure Ck where
  c : List Int
  o : Int
  l : Int
structure Ar where
  n : Str
  ds : List D
  ts : List T
  cs : List Ck
structure Ve where
  no : Int
  as : List Ar
def D.v (d : D) : List V := [.str d.n, .int d.l, .int d.h, .int d.s]
def T.v (t : T) : List V := [.str t.n, .str t.k]
/-- one by one -/
def All {α : Type} (R : V → α → Prop) (xs : List V) (l : List α) : Prop := xs.length = l.length ∧ ∀ (i : Nat) (a : α), l[i]? = some a → ∃ x, xs[i]? = some x ∧ R x a
theorem All.imp {α : Type} {R S : V → α → Prop} {xs : List V} {l : List α} (h : All R xs l) (k : ∀ x a, R x a → S x a) : All S xs l := ⟨h.1, fun i a e => let ⟨x, e1, e2⟩ := h.2 i a e; ⟨x, e1, k _ _ e2⟩⟩
theorem All.at {α : Type} {R : V → α → Prop} {xs : List V} {l : List α} (h : All R xs l) {i : Nat} {x : V} (hi : i < l.length) (e : xs[i]? = some x) : R x l[i] := by
  obtain ⟨y, e1, e2⟩ := h.2 i l[i] (List.getElem?_eq_getElem hi)
  rw [e] at e1
  obtain rfl := Option.some.inj e1
  exact e2
theorem All.nil {α : Type} {R : V → α → Prop} : All R [] [] := ⟨rfl, fun i a h => by simp at h⟩
theorem All.push {α : Type} {R : V → α → Prop} {xs : List V} {l : List α} {x : V} {a : α} (h : All R xs l) (e : R x a) : All R (xs ++ [x]) (l ++ [a]) := by
  refine ⟨by rw [List.length_append, List.length_append, h.1]; rfl, fun i b hb => ?_⟩
  rcases Nat.lt_trichotomy i l.length with hi | hi | hi
  · rw [List.getElem?_append_left hi] at hb
    obtain ⟨y, h1, h2⟩ := h.2 i b hb
    exact ⟨y, by rw [List.getElem?_append_left (by rw [h.1]; exact hi)]; exact h1, h2⟩
  · subst hi
    rw [List.getElem?_append_right (Nat.le_refl _), Nat.sub_self] at hb
    obtain rfl := Option.some.inj hb
    exact ⟨x, by rw [List.getElem?_append_right (Nat.le_of_eq h.1), h.1, Nat.sub_self]; rfl, e⟩
  · rw [List.getElem?_eq_none (by rw [List.length_append]; show l.length + 1 ≤ i; omega)] at hb
    cases hb
def RowAt (H : Hp) (r : List V) (x : V) : Prop := ∃ a, x = .ref a ∧ H a = some (.tup r)
def TupAt {α : Type} (H : Hp) (R : V → α → Prop) (x : V) (l : List α) : Prop := ∃ a xs, x = .ref a ∧ H a = some (.tup xs) ∧ All R xs l
def ShAt (H : Hp) (C : Addr) (x : V) (ds : List D) (ts : List T) : Prop := ∃ (a dx : Addr) (u v : V), x = .ref a ∧ H a = some (.ins C dx [("dims", u), ("attrs", v)]) ∧ TupAt H (fun y d => RowAt H d.v y) u ds ∧ TupAt H (fun y t => RowAt H t.v y) v ts
def CkAt (H : Hp) (x : V) (c : Ck) : Prop := ∃ a b, x = .ref a ∧ H a = some (.tup [.ref b, .int c.o, .int c.l]) ∧ H b = some (.tup (c.c.map V.int))
def ArAt (H : Hp) (C : Addr) (x : V) (r : Ar) : Prop := ∃ a u v, x = .ref a ∧ H a = some (.tup [.str r.n, u, v]) ∧ ShAt H C u r.ds r.ts ∧ TupAt H (CkAt H) v r.cs
def VeAt (H : Hp) (C : Addr) (x : V) (r : Ve) : Prop := ∃ a v, x = .ref a ∧ H a = some (.tup [.int r.no, v]) ∧ TupAt H (ArAt H C) v r.as
theorem RowAt.same {H H1 : Hp} {r : List V} {x : V} (h : RowAt H r x) (s : Same H H1) : RowAt H1 r x := let ⟨a, e1, e2⟩ := h; ⟨a, e1, s _ _ e2⟩
theorem TupAt.same {α : Type} {H H1 : Hp} {R S : V → α → Prop} {x : V} {l : List α} (h : TupAt H R x l) (s : Same H H1) (k : ∀ x a, R x a → S x a) : TupAt H1 S x l := let ⟨a, xs, e1, e2, e3⟩ := h; ⟨a, xs, e1, s _ _ e2, e3.imp k⟩
theorem ShAt.same {H H1 : Hp} {C : Addr} {x : V} {ds : List D} {ts : List T} (h : ShAt H C x ds ts) (s : Same H H1) : ShAt H1 C x ds ts := let ⟨a, dx, u, v, e1, e2, e3, e4⟩ := h
  ⟨a, dx, u, v, e1, s _ _ e2, e3.same s fun _ _ z => z.same s, e4.same s fun _ _ z => z.same s⟩
theorem CkAt.same {H H1 : Hp} {x : V} {c : Ck} (h : CkAt H x c) (s : Same H H1) : CkAt H1 x c := let ⟨a, b, e1, e2, e3⟩ := h; ⟨a, b, e1, s _ _ e2, s _ _ e3⟩
theorem ArAt.same {H H1 : Hp} {C : Addr} {x : V} {r : Ar} (h : ArAt H C x r) (s : Same H H1) : ArAt H1 C x r := let ⟨a, u, v, e1, e2, e3, e4⟩ := h; ⟨a, u, v, e1, s _ _ e2, e3.same s, e4.same s fun _ _ z => z.same s⟩
theorem VeAt.same {H H1 : Hp} {C : Addr} {x : V} {r : Ve} (h : VeAt H C x r) (s : Same H H1) : VeAt H1 C x r := let ⟨a, v, e1, e2, e3⟩ := h; ⟨a, v, e1, s _ _ e2, e3.same s fun _ _ z => z.same s⟩
/-! ### its octets -/
def KS : List Str := ["int", "flag", "text"]
def kix (k : Str) : Int := if k = "int" then 0 else if k = "flag" then 1 else 2
def eD (d : D) : List Int := wn d.n ++ w4 (d.l + 2147483648) ++ w4 (d.h + 2147483648) ++ w4 d.s
def eT (t : T) : List Int := wn t.n ++ [kix t.k]
def eSh (ds : List D) (ts : List T) : List Int := [(ds.length : Int)] ++ ds.flatMap eD ++ [(ts.length : Int)] ++ ts.flatMap eT
def eCk (c : Ck) : List Int := (c.c ++ [c.o, c.l]).flatMap w4
def eCs (cs : List Ck) : List Int := w4 (cs.length : Int) ++ cs.flatMap eCk
def eAr (r : Ar) : List Int := wn r.n ++ eSh r.ds r.ts ++ eCs r.cs
def eVe (r : Ve) : List Int := w4 r.no ++ w4 (r.as.length : Int) ++ r.as.flatMap eAr
def eRt (up da : Int) (vs : List Ve) : List Int := [77, 83] ++ w4 up ++ w4 da ++ w4 (vs.length : Int) ++ vs.flatMap eVe
theorem fm_take {α : Type} (f : α → List Int) (l : List α) (i : Nat) : ((l.take i).flatMap f).length ≤ (l.flatMap f).length := by
  conv => rhs; rw [← List.take_append_drop i l]
  rw [List.flatMap_append, List.length_append]
  omega
theorem fm_succ {α : Type} (f : α → List Int) {l : List α} {i : Nat} (h : i < l.length) : (l.take (i + 1)).flatMap f = (l.take i).flatMap f ++ f l[i] := by
  rw [List.take_add_one, List.getElem?_eq_getElem h, List.flatMap_append]
  show _ ++ [l[i]].flatMap f = _
  rw [List.flatMap_singleton]
theorem big {n : Nat} (h : n ≤ 1000000) : n ≤ sizeLine := Nat.le_trans h (by decide)
section
variable {P : Program} {w : World} {K : PySem.W.Frag} {mg : Str → Option Value} {base : Heap}
def spWC : Sp := fun vs H Q _ => ∃ (v : V) (cs : List Ck), vs = [v] ∧ TupAt H (CkAt H) v cs ∧ (eCs cs).length ≤ 1000000 ∧ ∀ H' p, Same H H' → H p = none → H' p = some (.lst ((eCs cs).map V.int)) → Q (.ref p) H'
theorem scWC : FnScope ["chunks", "octets", "chunk", "offset", "length", "number"] ["chunks"] (defScope sWriteChunks) := ⟨rfl, rfl, rfl, by decide +kernel, rfl, by decide +kernel, by decide +kernel⟩
theorem ok_wc {f fW : Addr} {fd fdW : FuncData} (F : Fun K "write_chunks" "write_chunks" sWriteChunks f fd) (N : Nm mg) (FW : Fun K "write_four" "write_four" sWriteFour fW fdW) (bW : Binds K fdW ["number"] []) (gW : mg "write_four" = some (.ref fW)) : FnOk P w K mg base CX0 2 f fd ["chunks"] spWC := by
  have GW : FnOk P w K mg base CX0 1 fW fdW ["number"] spW4 := ok_w4 FW
  refine F.ok scWC (fun vs H Q E h => ?_) (fun cdv A outer s H vs Q E hr h => ?_)
  · obtain ⟨v, cs, rfl, _⟩ := h
    rfl
  · obtain ⟨v, cs, rfl, ⟨a, xs, rfl, ha, hall⟩, hl, q⟩ := h
    refine ⟨_, pss_cons (ps_set (i := 1) scWC.nd rfl (.inl rfl) (pe_call GW hr (by rfl) gW FW.kp bW .nil pass0 (pa_cons (pe_callB call_len_seq (by rfl) N.len PySem.boot_len (pa_cons (pv 0) pa_nil)) pa_nil)))
      (pss_cons (ps_for PassesOwn.never rfl (pi_tup (pv 0)) (pg_tup (by rfl) (pgs_cons (pg_name (i := 2) scWC.nd rfl (.inl rfl)) (pgs_cons (pg_name (i := 3) scWC.nd rfl (.inl rfl)) (pgs_cons (pg_name (i := 4) scWC.nd rfl (.inl rfl)) pgs_nil))))
        (pss_one (ps_for PassesOwn.never rfl (pi_tup (pe_tup (StX.pa_star (pv 2) (pa_cons (pv 3) (pa_cons (pv 4) pa_nil))))) (pg_name (i := 5) scWC.nd rfl (.inl rfl))
          (pss_one (ps_expr (pe_bm PySem.F.plainAttrs_list PySem.F.slot_list_extend PySem.F.type_list_extend mt_extend (pv 1) (pa_cons (pe_call GW hr (by rfl) gW FW.kp bW .nil pass0 (pa_cons (pv 5) pa_nil)) pa_nil)))))))
      (pss_one (ps_ret (pv 1)))), ?_⟩
    have hxl := hall.1
    refine ⟨_, rfl, a, xs, rfl, .inr (SqT.of ha), _, rfl, fun p np => ?_⟩
    rw [hxl]
    have s1 : Same H (upd H p (.lst ((w4 (cs.length : Int)).map V.int))) := same_new np
    refine ⟨_, rfl, a, rfl, ⟨_, SqT.of (s1 _ _ ha)⟩, for_it (walk_tup (xs := xs)) (fun i σ H2 => ∃ y2 y3 y4 y5, σ = [some (.ref a), some (.ref p), y2, y3, y4, y5] ∧ Same H H2 ∧ H2 p = some (.lst ((w4 (cs.length : Int) ++ (cs.take i).flatMap eCk).map V.int))) ?_ ?_ ?_ ?_⟩
    · exact ⟨none, none, none, none, rfl, s1, by rw [upd_same]; rfl⟩
    · rintro i σ H2 hi ⟨y2, y3, y4, y5, rfl, s2, _⟩
      exact SqT.of (s2 _ _ ha)
    · rintro i x σ H2 H' hi ⟨y2, y3, y4, y5, rfl, s2, hp⟩ ⟨rfl, hx⟩
      rw [hxl] at hi
      obtain ⟨b, u, rfl, h1, h2⟩ := hall.at hi hx
      have hle : (w4 (cs.length : Int) ++ (cs.take (i + 1)).flatMap eCk).length ≤ 1000000 := by
        have := fm_take eCk cs (i + 1)
        unfold eCs at hl
        rw [List.length_append] at hl ⊢
        omega
      rw [fm_succ eCk hi, ← List.append_assoc] at hle ⊢
      generalize cs[i] = c at h1 h2 hle ⊢
      generalize (w4 (cs.length : Int) ++ (cs.take i).flatMap eCk) = acc at hp hle ⊢
      refine ⟨b, _, rfl, SqT.of (s2 _ _ h1), rfl, _, _, rfl, _, _, rfl, _, _, rfl, rfl, ?_⟩
      have em : c.c.map V.int ++ [V.int c.o, V.int c.l] = (c.c ++ [c.o, c.l]).map V.int := by rw [List.map_append]; rfl
      have hnl : (c.c ++ [c.o, c.l]).length ≤ 1000000 := by
        have : ((c.c ++ [c.o, c.l]).flatMap w4).length = 4 * (c.c ++ [c.o, c.l]).length := by
          generalize (c.c ++ [c.o, c.l]) = l
          induction l with
          | nil => rfl
          | cons x r ih =>
            rw [List.flatMap_cons, List.length_append, ih, List.length_cons]
            show 4 + _ = _
            omega
        rw [List.length_append] at hle
        unfold eCk at hle
        omega
      refine ⟨_, rfl, u, _, rfl, .inl (SqT.of (s2 _ _ h2)), _, rfl, _, rfl, ?_, fun t nt => ?_⟩
      · show (c.c.map V.int ++ [V.int c.o, V.int c.l]).length ≤ _
        rw [em, List.length_map]
        exact big hnl
      have npt : p ≠ t := ne_of_none hp nt
      have ntH : H t = none := s2.free nt
      refine ⟨t, rfl, ⟨_, SqT.of upd_same⟩, for_it (walk_tup (xs := (c.c ++ [c.o, c.l]).map V.int)) (fun j σ H3 => ∃ y5, σ = [some (.ref a), some (.ref p), some (.ref u), some (.int c.o), some (.int c.l), y5] ∧ Same H H3 ∧ H3 t = some (.tup ((c.c ++ [c.o, c.l]).map V.int)) ∧ H3 p = some (.lst ((acc ++ ((c.c ++ [c.o, c.l]).take j).flatMap w4).map V.int))) ?_ ?_ ?_ ?_⟩
      · refine ⟨_, rfl, s2.trans (same_new nt), ?_, ?_⟩
        · rw [upd_same, ← em]
        · rw [upd_ne npt, List.take_zero, List.flatMap_nil, List.append_nil]
          exact hp
      · rintro j σ H3 hj ⟨y5, rfl, s3, ht, _⟩
        exact SqT.of ht
      · rintro j x σ H3 H' hj ⟨y5, rfl, s3, ht, hp3⟩ ⟨rfl, hx⟩
        rw [List.length_map] at hj
        rw [List.getElem?_map, List.getElem?_eq_getElem hj] at hx
        obtain rfl := Option.some.inj hx
        have hle2 : (acc ++ ((c.c ++ [c.o, c.l]).take (j + 1)).flatMap w4).length ≤ 1000000 := by
          have := fm_take w4 (c.c ++ [c.o, c.l]) (j + 1)
          rw [List.length_append] at hle ⊢
          unfold eCk at hle
          omega
        rw [fm_succ w4 hj] at hle2 ⊢
        refine ⟨_, rfl, .inl ⟨rfl, _, .inl (.inl hp3)⟩, _, rfl, _, rfl, fun p2 n2 => ?_⟩
        have n2p : p ≠ p2 := ne_of_none hp3 n2
        refine ⟨p, p2, _, _, rfl, rfl, by rw [upd_ne n2p]; exact hp3, upd_same, ?_, ?_⟩
        · rw [List.length_map, List.length_map]
          rw [← List.append_assoc, List.length_append] at hle2
          exact big hle2
        · refine ⟨_, rfl, fun z o e => ?_, ?_, ?_⟩
          · have e3 := s3 _ _ e
            rw [upd_ne (fun y => by rw [y, np] at e; cases e), upd_ne (ne_of_none e3 n2)]
            exact e3
          · rw [upd_ne (ne_of ht hp3 (by intro z; cases z)), upd_ne (ne_of_none ht n2)]
            exact ht
          · rw [upd_same, ← List.map_append, List.append_assoc]
      · rintro σ H3 ⟨y5, rfl, s3, ht, hp3⟩
        rw [List.length_map, List.take_length] at hp3
        refine ⟨_, _, _, _, rfl, s3, ?_⟩
        rw [hp3]
        rfl
    · rintro σ H2 ⟨y2, y3, y4, y5, rfl, s2, hp⟩
      rw [hxl, List.take_length] at hp
      exact ⟨_, rfl, q H2 p s2 np hp⟩
end
end K2

namespace K2
open PySem L2
def SHf : List Str := ["dims", "attrs"]
structure Ct2 (K : PySem.W.Frag) (mg : Str → Option Value) : Prop where
  lift : ∃ v, mg "LIFT" = some v ∧ RelV (.int 2147483648) v
  kinds : ∃ kk, mg "KINDS" = some (.ref kk) ∧ (∀ H, SqT K H kk (KS.map V.str)) ∧ ∃ o, K.lookup kk = some o ∧ o.cls = .type "tuple" ∧ o.dict = none
structure GD (d : D) : Prop where
  n : d.n.length ≤ 30
structure GT (t : T) : Prop where
  n : t.n.length ≤ 30
  k : t.k ∈ KS
theorem kix_at {k : Str} (h : k ∈ KS) : ∃ j : Nat, KS[j]? = some k ∧ (∀ m, m < j → KS[m]? ≠ some k) ∧ kix k = (j : Int) := by
  have no0 : ∀ m : Nat, m < 0 → KS[m]? ≠ some k := fun m h => absurd h (Nat.not_lt_zero _)
  rcases List.mem_cons.mp h with rfl | h
  · exact ⟨0, rfl, no0, by decide +kernel⟩
  rcases List.mem_cons.mp h with rfl | h
  · refine ⟨1, rfl, fun m hm => ?_, by decide +kernel⟩
    obtain rfl : m = 0 := by omega
    decide +kernel
  rcases List.mem_cons.mp h with rfl | h
  · refine ⟨2, rfl, fun m hm => ?_, by decide +kernel⟩
    match m, hm with
    | 0, _ => decide +kernel
    | 1, _ => decide +kernel
  · exact absurd h List.not_mem_nil
section
variable {P : Program} {w : World} {K : PySem.W.Frag} {mg : Str → Option Value} {base : Heap}
def spWS (C : Addr) : Sp := fun vs H Q _ => ∃ (v : V) (ds : List D) (ts : List T), vs = [v] ∧ ShAt H C v ds ts ∧ (∀ d ∈ ds, GD d) ∧ (∀ t ∈ ts, GT t) ∧ (eSh ds ts).length ≤ 1000000 ∧ ∀ H' p, Same H H' → H p = none → H' p = some (.lst ((eSh ds ts).map V.int)) → Q (.ref p) H'
theorem scWS : FnScope ["shape", "octets", "name", "low", "high", "step", "kind"] ["shape"] (defScope sWriteShape) := ⟨rfl, rfl, rfl, by decide +kernel, rfl, by decide +kernel, by decide +kernel⟩
theorem ok_ws {f fW fN fE C fI : Addr} {fd fdW fdN fdE : FuncData} (F : Fun K "write_shape" "write_shape" sWriteShape f fd) (N : Nm mg) (go : mg "ord" = none) (S : KC K C fI SHf) (Z : Ct2 K mg) (FW : Fun K "write_four" "write_four" sWriteFour fW fdW) (bW : Binds K fdW ["number"] []) (gW : mg "write_four" = some (.ref fW))
    (FN : Fun K "write_name" "write_name" sWriteName fN fdN) (bN : Binds K fdN ["name"] []) (gN : mg "write_name" = some (.ref fN)) (FE : Fun K "encode_text" "encode_text" sEncodeText fE fdE) (bE : Binds K fdE ["text"] []) (gE : mg "encode_text" = some (.ref fE)) : FnOk P w K mg base CX0 3 f fd ["shape"] (spWS C) := by
  have GW : FnOk P w K mg base CX0 1 fW fdW ["number"] spW4 := ok_w4 FW
  have GN : FnOk P w K mg base CX0 2 fN fdN ["name"] spWN := ok_wn FN N go FE bE gE
  refine F.ok scWS (fun vs H Q E h => ?_) (fun cdv A outer s H vs Q E hr h => ?_)
  · obtain ⟨v, ds, ts, rfl, _⟩ := h
    rfl
  · obtain ⟨v, ds, ts, rfl, ⟨a, dx, v1, v2, rfl, ha, ⟨td, xs, rfl, htd, had⟩, ⟨ta, ys, rfl, hta, hat⟩⟩, gd, gt, hl, q⟩ := h
    have hr1 := hr.mono (j := 1) (by decide)
    have hr2 := hr.mono (j := 2) (by decide)
    obtain ⟨lv, ml, rl⟩ := Z.lift
    obtain ⟨kk, mk, hk, ko, ko1, ko2, ko3⟩ := Z.kinds
    refine ⟨_, pss_cons (ps_set (i := 1) scWS.nd rfl (.inl rfl) (pe_lst (pa_cons (pe_callB call_len_seq (by rfl) N.len PySem.boot_len (pa_cons (pe_fld (pv 0) rfl) pa_nil)) pa_nil)))
      (Evl.pss_cut (ps_for PassesOwn.never rfl (pi_tup (pe_fld (pv 0) rfl)) (pg_tup (by rfl) (pgs_cons (pg_name (i := 2) scWS.nd rfl (.inl rfl)) (pgs_cons (pg_name (i := 3) scWS.nd rfl (.inl rfl)) (pgs_cons (pg_name (i := 4) scWS.nd rfl (.inl rfl)) (pgs_cons (pg_name (i := 5) scWS.nd rfl (.inl rfl)) pgs_nil)))))
        (pss_one (ps_expr (pe_bm PySem.F.plainAttrs_list PySem.F.slot_list_extend PySem.F.type_list_extend mt_extend (pv 1) (pa_cons (pe_op op_cat (pe_op op_cat (pe_op op_cat (pe_call GN hr2 (by rfl) gN FN.kp bN .nil pass0 (pa_cons (pv 2) pa_nil)) (pe_call GW hr1 (by rfl) gW FW.kp bW .nil pass0 (pa_cons (pe_op op_add (pv 3) (pe_glob (by rfl) ml rl)) pa_nil)))
            (pe_call GW hr1 (by rfl) gW FW.kp bW .nil pass0 (pa_cons (pe_op op_add (pv 4) (pe_glob (by rfl) ml rl)) pa_nil))) (pe_call GW hr1 (by rfl) gW FW.kp bW .nil pass0 (pa_cons (pv 5) pa_nil))) pa_nil)))))
      (pss_cons (ps_expr (pe_bm PySem.F.plainAttrs_list PySem.F.slot_list_append PySem.F.type_list_append mt_append (pv 1) (pa_cons (pe_callB call_len_seq (by rfl) N.len PySem.boot_len (pa_cons (pe_fld (pv 0) rfl) pa_nil)) pa_nil)))
      (Evl.pss_cut (ps_for PassesOwn.never rfl (pi_tup (pe_fld (pv 0) rfl)) (pg_tup (by rfl) (pgs_cons (pg_name (i := 2) scWS.nd rfl (.inl rfl)) (pgs_cons (pg_name (i := 6) scWS.nd rfl (.inl rfl)) pgs_nil)))
        (pss_one (ps_expr (pe_bm PySem.F.plainAttrs_list PySem.F.slot_list_extend PySem.F.type_list_extend mt_extend (pv 1) (pa_cons (pe_op op_cat (pe_call GN hr2 (by rfl) gN FN.kp bN .nil pass0 (pa_cons (pv 2) pa_nil)) (pe_lst (pa_cons (pe_bm PySem.F.plainAttrs_tuple PySem.F.slot_tuple_index PySem.F.type_tuple_index mt_tup_index (pe_glob (v := .ref kk) (by rfl) mk rfl) (pa_cons (pv 6) pa_nil)) pa_nil))) pa_nil)))))
      (pss_one (ps_ret (pv 1)))))), ?_⟩
    have nC : ∀ {b : Addr} {xs : List V}, H b = some (.tup xs) → b ≠ a := fun e => ne_of e ha (by intro z; cases z)
    refine ⟨_, rfl, a, C, dx, _, .ref td, rfl, ha, S.cl, S.na _ (by decide +kernel), rfl, td, xs, rfl, .inr (SqT.of htd), (by show 1 ≤ sizeLine; decide), fun p np => ?_⟩
    rw [had.1]
    have s1 : Same H (upd H p (.lst [.int (ds.length : Int)])) := same_new np
    have lenB : ([(ds.length : Int)] ++ ds.flatMap eD).length ≤ 1000000 := by
      unfold eSh at hl
      rw [List.length_append, List.length_append] at hl
      omega
    refine ⟨fun σ H2 => ∃ y2 y3 y4 y5 y6, σ = [some (.ref a), some (.ref p), y2, y3, y4, y5, y6] ∧ Same H H2 ∧ H2 p = some (.lst (([(ds.length : Int)] ++ ds.flatMap eD).map V.int)), ?_, ?_⟩
    · refine ⟨_, rfl, a, C, dx, _, .ref td, rfl, s1 _ _ ha, S.cl, S.na _ (by decide +kernel), rfl, td, rfl, ⟨_, SqT.of (s1 _ _ htd)⟩, for_it (walk_tup (xs := xs)) (fun i σ H2 => ∃ y2 y3 y4 y5, σ = [some (.ref a), some (.ref p), y2, y3, y4, y5, none] ∧ Same H H2 ∧ H2 p = some (.lst (([(ds.length : Int)] ++ (ds.take i).flatMap eD).map V.int))) ?_ ?_ ?_ ?_⟩
      · exact ⟨none, none, none, none, rfl, s1, by rw [upd_same]; rfl⟩
      · rintro i σ H2 hi ⟨y2, y3, y4, y5, rfl, s2, _⟩
        exact SqT.of (s2 _ _ htd)
      · rintro i x σ H2 H' hi ⟨y2, y3, y4, y5, rfl, s2, hp⟩ ⟨rfl, hx⟩
        rw [had.1] at hi
        obtain ⟨b, rfl, hb⟩ := had.at hi hx
        have gd1 := (gd _ (List.getElem_mem hi)).n
        have hle : ([(ds.length : Int)] ++ (ds.take (i + 1)).flatMap eD).length ≤ 1000000 := by
          have := fm_take eD ds (i + 1)
          rw [List.length_append] at lenB ⊢
          omega
        rw [fm_succ eD hi, ← List.append_assoc] at hle ⊢
        generalize ds[i] = d at hb gd1 hle ⊢
        generalize ([(ds.length : Int)] ++ (ds.take i).flatMap eD) = acc at hp hle ⊢
        refine ⟨b, _, rfl, SqT.of (s2 _ _ hb), rfl, _, _, rfl, _, _, rfl, _, _, rfl, _, _, rfl, rfl, ?_⟩
        refine ⟨_, rfl, .inl ⟨rfl, _, .inl (.inl hp)⟩, _, rfl, d.n, rfl, by omega, fun H3 p1 s3 n1 e1 => ?_⟩
        refine ⟨_, rfl, _, _, rfl, rfl, _, rfl, fun p2 n2 => ?_⟩
        have q12 : p1 ≠ p2 := ne_of_none e1 n2
        have el1 : (wn d.n).length ≤ 31 := by
          show (nmo d.n).length + 1 ≤ 31
          rw [nmo_len]
          omega
        refine ⟨p1, p2, _, _, rfl, rfl, by rw [upd_ne q12]; exact e1, upd_same, ?_, fun p3 n3 => ?_⟩
        · rw [List.length_map, List.length_map]
          exact big (by show _ + 4 ≤ _; omega)
        refine ⟨_, rfl, _, _, rfl, rfl, _, rfl, fun p4 n4 => ?_⟩
        have q34 : p3 ≠ p4 := ne_of_none upd_same n4
        refine ⟨p3, p4, _, _, rfl, rfl, by rw [upd_ne q34, upd_same], upd_same, ?_, fun p5 n5 => ?_⟩
        · rw [List.length_append, List.length_map, List.length_map, List.length_map]
          exact big (by show _ + 4 + 4 ≤ _; omega)
        refine ⟨_, rfl, _, rfl, fun p6 n6 => ?_⟩
        have q56 : p5 ≠ p6 := ne_of_none upd_same n6
        refine ⟨p5, p6, _, _, rfl, rfl, by rw [upd_ne q56, upd_same], upd_same, ?_, fun p7 n7 => ?_⟩
        · rw [List.length_append, List.length_append, List.length_map, List.length_map, List.length_map, List.length_map]
          exact big (by show _ + 4 + 4 + 4 ≤ _; omega)
        refine ⟨p, p7, _, _, rfl, rfl, same_new n7 _ _ (same_new n6 _ _ (same_new n5 _ _ (same_new n4 _ _ (same_new n3 _ _ (same_new n2 _ _ (s3 _ _ hp)))))), upd_same, ?_, ?_⟩
        · rw [List.length_append] at hle
          refine big (Nat.le_trans (Nat.le_of_eq ?_) hle)
          unfold eD
          simp only [List.length_append, List.length_map]
        · refine ⟨_, _, _, _, rfl, fun z o e => ?_, ?_⟩
          · rw [upd_ne (fun y => by rw [y, np] at e; cases e)]
            exact same_new n7 _ _ (same_new n6 _ _ (same_new n5 _ _ (same_new n4 _ _ (same_new n3 _ _ (same_new n2 _ _ (s3 _ _ (s2 _ _ e)))))))
          · rw [upd_same]
            unfold eD
            simp only [List.map_append]
      · rintro σ H2 ⟨y2, y3, y4, y5, rfl, s2, hp⟩
        rw [had.1, List.take_length] at hp
        exact ⟨_, _, _, _, _, rfl, s2, hp⟩
    · rintro σ H2 ⟨y2, y3, y4, y5, y6, rfl, s2, hp⟩
      refine ⟨_, rfl, .inl ⟨rfl, _, .inl (.inl hp)⟩, _, rfl, a, C, dx, _, .ref ta, rfl, s2 _ _ ha, S.cl, S.na _ (by decide +kernel), rfl, ta, ys, rfl, .inr (SqT.of (s2 _ _ hta)), p, _, _, rfl, rfl, hp, ?_, ?_⟩
      · rw [List.length_map]
        exact Nat.lt_of_le_of_lt lenB (by decide)
      rw [hat.1]
      have s3 : Same H (upd H2 p (.lst (([(ds.length : Int)] ++ ds.flatMap eD).map V.int ++ [.int (ts.length : Int)]))) := same_put s2 np
      have hp3 : (upd H2 p (.lst (([(ds.length : Int)] ++ ds.flatMap eD).map V.int ++ [.int (ts.length : Int)]))) p = some (.lst (([(ds.length : Int)] ++ ds.flatMap eD ++ [(ts.length : Int)]).map V.int)) := by
        rw [upd_same, List.map_append (l₂ := [(ts.length : Int)])]
        rfl
      generalize (upd H2 p (.lst (([(ds.length : Int)] ++ ds.flatMap eD).map V.int ++ [.int (ts.length : Int)]))) = H3 at s3 hp3
      have hl2 : (([(ds.length : Int)] ++ ds.flatMap eD ++ [(ts.length : Int)]) ++ ts.flatMap eT).length ≤ 1000000 := hl
      generalize hpre : ([(ds.length : Int)] ++ ds.flatMap eD ++ [(ts.length : Int)]) = pre at hp3 hl2
      refine ⟨fun σ H2 => ∃ y2 y3 y4 y5 y6, σ = [some (.ref a), some (.ref p), y2, y3, y4, y5, y6] ∧ Same H H2 ∧ H2 p = some (.lst ((pre ++ ts.flatMap eT).map V.int)), ?_, ?_⟩
      · refine ⟨_, rfl, a, C, dx, _, .ref ta, rfl, s3 _ _ ha, S.cl, S.na _ (by decide +kernel), rfl, ta, rfl, ⟨_, SqT.of (s3 _ _ hta)⟩, for_it (walk_tup (xs := ys)) (fun i σ H2 => ∃ y2 y6, σ = [some (.ref a), some (.ref p), y2, y3, y4, y5, y6] ∧ Same H H2 ∧ H2 p = some (.lst ((pre ++ (ts.take i).flatMap eT).map V.int))) ?_ ?_ ?_ ?_⟩
        · exact ⟨_, _, rfl, s3, by rw [List.take_zero, List.flatMap_nil, List.append_nil]; exact hp3⟩
        · rintro i σ H2 hi ⟨y2, y6, rfl, s2, _⟩
          exact SqT.of (s2 _ _ hta)
        · rintro i x σ H2 H' hi ⟨y2, y6, rfl, s2, hp⟩ ⟨rfl, hx⟩
          rw [hat.1] at hi
          obtain ⟨b, rfl, hb⟩ := hat.at hi hx
          have gt1 := gt _ (List.getElem_mem hi)
          have hle : (pre ++ (ts.take (i + 1)).flatMap eT).length ≤ 1000000 := by
            have := fm_take eT ts (i + 1)
            rw [List.length_append] at hl2 ⊢
            omega
          rw [fm_succ eT hi, ← List.append_assoc] at hle ⊢
          generalize ts[i] = t at hb gt1 hle ⊢
          generalize (pre ++ (ts.take i).flatMap eT) = acc at hp hle ⊢
          have tl := gt1.n
          obtain ⟨j, j1, j2, j3⟩ := kix_at gt1.k
          refine ⟨b, _, rfl, SqT.of (s2 _ _ hb), rfl, _, _, rfl, _, _, rfl, rfl, ?_⟩
          refine ⟨_, rfl, .inl ⟨rfl, _, .inl (.inl hp)⟩, _, rfl, t.n, rfl, by omega, fun H3 p1 s3 n1 e1 => ?_⟩
          refine ⟨.inr (.inl ⟨rfl, ko, ko1, ko2, ko3⟩), _, rfl, kk, KS, t.k, j, rfl, rfl, hk _, j1, j2, (by show 1 ≤ sizeLine; decide), fun p2 n2 => ?_⟩
          have q12 : p1 ≠ p2 := ne_of_none e1 n2
          have el1 : (wn t.n).length ≤ 31 := by
            show (nmo t.n).length + 1 ≤ 31
            rw [nmo_len]
            omega
          refine ⟨p1, p2, _, _, rfl, rfl, by rw [upd_ne q12]; exact e1, upd_same, ?_, fun p3 n3 => ?_⟩
          · rw [List.length_map]
            exact big (by show _ + 1 ≤ _; omega)
          refine ⟨p, p3, _, _, rfl, rfl, same_new n3 _ _ (same_new n2 _ _ (s3 _ _ hp)), upd_same, ?_, ?_⟩
          · rw [List.length_append] at hle
            refine big (Nat.le_trans (Nat.le_of_eq ?_) hle)
            unfold eT
            simp only [List.length_append, List.length_map, List.length_cons, List.length_nil]
          · refine ⟨_, _, rfl, fun z o e => ?_, ?_⟩
            · rw [upd_ne (fun y => by rw [y, np] at e; cases e)]
              exact same_new n3 _ _ (same_new n2 _ _ (s3 _ _ (s2 _ _ e)))
            · rw [upd_same]
              unfold eT
              rw [j3]
              simp only [List.map_append]
              rfl
        · rintro σ H2 ⟨y2, y6, rfl, s2, hp⟩
          rw [hat.1, List.take_length] at hp
          exact ⟨_, _, _, _, _, rfl, s2, hp⟩
      · rintro σ H2 ⟨y2, y3, y4, y5, y6, rfl, s2, hp⟩
        refine ⟨_, rfl, q H2 p s2 np ?_⟩
        rw [hp, ← hpre]
        rfl
end
end K2

namespace K2
open PySem L2
def RHf : List Str := ["upcoming", "data", "versions"]
def RtAt (H : Hp) (CR C : Addr) (x : V) (up da : Int) (vs : List Ve) : Prop := ∃ (a dx : Addr) (u : V), x = .ref a ∧ H a = some (.ins CR dx [("upcoming", .int up), ("data", .int da), ("versions", u)]) ∧ TupAt H (VeAt H C) u vs
theorem RtAt.same {H H1 : Hp} {CR C : Addr} {x : V} {up da : Int} {vs : List Ve} (h : RtAt H CR C x up da vs) (s : Same H H1) : RtAt H1 CR C x up da vs := let ⟨a, dx, u, e1, e2, e3⟩ := h; ⟨a, dx, u, e1, s _ _ e2, e3.same s fun _ _ z => z.same s⟩
structure GA (r : Ar) : Prop where
  n : r.n.length ≤ 30
  d : ∀ d ∈ r.ds, GD d
  t : ∀ t ∈ r.ts, GT t
def GV (vs : List Ve) : Prop := ∀ v ∈ vs, ∀ r ∈ v.as, GA r
structure Ct3 (K : PySem.W.Frag) (mg : Str → Option Value) : Prop where
  first : ∃ kf, mg "FIRST_OCTETS" = some (.ref kf) ∧ ∀ H, SqT K H kf ([77, 83].map V.int)
section
variable {P : Program} {w : World} {K : PySem.W.Frag} {mg : Str → Option Value} {base : Heap}
structure EncF (P : Program) (w : World) (K : PySem.W.Frag) (mg : Str → Option Value) (base : Heap) (C : Addr) where
  (f4 fN fS fC fU : Addr)
  (d4 dN dS dC dU : FuncData)
  G4 : FnOk P w K mg base CX0 1 f4 d4 ["number"] spW4
  b4 : Binds K d4 ["number"] []
  k4 : PySem.W.keepIn K (.ref f4) = true
  g4 : mg "write_four" = some (.ref f4)
  GN : FnOk P w K mg base CX0 2 fN dN ["name"] spWN
  bN : Binds K dN ["name"] []
  kN : PySem.W.keepIn K (.ref fN) = true
  gN : mg "write_name" = some (.ref fN)
  GS : FnOk P w K mg base CX0 3 fS dS ["shape"] (spWS C)
  bS : Binds K dS ["shape"] []
  kS : PySem.W.keepIn K (.ref fS) = true
  gS : mg "write_shape" = some (.ref fS)
  GC : FnOk P w K mg base CX0 2 fC dC ["chunks"] spWC
  bC : Binds K dC ["chunks"] []
  kC : PySem.W.keepIn K (.ref fC) = true
  gC : mg "write_chunks" = some (.ref fC)
  GU : FnOk P w K mg base CX0 1 fU dU ["octets"] (spSum K)
  bU : Binds K dU ["octets"] []
  kU : PySem.W.keepIn K (.ref fU) = true
  gU : mg "sum_of" = some (.ref fU)
def spER (CR C : Addr) : Sp := fun vs H Q _ => ∃ (v : V) (up da : Int) (rs : List Ve), vs = [v] ∧ RtAt H CR C v up da rs ∧ GV rs ∧ (eRt up da rs).length ≤ 900000 ∧
  ∀ H' p, Same H H' → H p = none → H' p = some (.lst ((eRt up da rs ++ w4 (sumO (eRt up da rs))).map V.int)) → Q (.ref p) H'
theorem scER : FnScope ["root", "octets", "number", "arrays", "name", "shape", "chunks"] ["root"] (defScope sEncodeRoot) := ⟨rfl, rfl, rfl, by decide +kernel, rfl, by decide +kernel, by decide +kernel⟩
theorem ok_er {f CR C fI : Addr} {fd : FuncData} (F : Fun K "encode_root" "encode_root" sEncodeRoot f fd) (N : Nm mg) (R : KC K CR fI RHf) (Y : Ct3 K mg) (Z : EncF P w K mg base C) : FnOk P w K mg base CX0 4 f fd ["root"] (spER CR C) := by
  have G4 := Z.G4
  have GN := Z.GN
  have GS := Z.GS
  have GC := Z.GC
  have GU := Z.GU
  refine F.ok scER (fun vs H Q E h => ?_) (fun cdv A outer s H vs Q E hr h => ?_)
  · obtain ⟨v, up, da, rs, rfl, _⟩ := h
    rfl
  · obtain ⟨v, up, da, rs, rfl, ⟨a, dx, v1, rfl, ha, ⟨ta, xs, rfl, hta, hall⟩⟩, gv, hl, q⟩ := h
    have hr1 := hr.mono (j := 1) (by decide)
    have hr2 := hr.mono (j := 2) (by decide)
    obtain ⟨kf, mf, hf⟩ := Y.first
    refine ⟨_, pss_cons (ps_set (i := 1) scER.nd rfl (.inl rfl) (pe_op op_cat (pe_op op_cat (pe_op op_cat (pe_callTy call_list_of (by rfl) N.list (by decide +kernel) (pa_cons (pe_glob (v := .ref kf) (by rfl) mf rfl) pa_nil))
        (pe_call G4 hr1 (by rfl) Z.g4 Z.k4 Z.b4 .nil pass0 (pa_cons (pe_fld (pv 0) rfl) pa_nil))) (pe_call G4 hr1 (by rfl) Z.g4 Z.k4 Z.b4 .nil pass0 (pa_cons (pe_fld (pv 0) rfl) pa_nil)))
        (pe_call G4 hr1 (by rfl) Z.g4 Z.k4 Z.b4 .nil pass0 (pa_cons (pe_callB call_len_seq (by rfl) N.len PySem.boot_len (pa_cons (pe_fld (pv 0) rfl) pa_nil)) pa_nil))))
      (Evl.pss_cut (ps_for PassesOwn.never rfl (pi_tup (pe_fld (pv 0) rfl)) (pg_tup (by rfl) (pgs_cons (pg_name (i := 2) scER.nd rfl (.inl rfl)) (pgs_cons (pg_name (i := 3) scER.nd rfl (.inl rfl)) pgs_nil)))
        (pss_cons (ps_expr (pe_bm PySem.F.plainAttrs_list PySem.F.slot_list_extend PySem.F.type_list_extend mt_extend (pv 1) (pa_cons (pe_op op_cat (pe_call G4 hr1 (by rfl) Z.g4 Z.k4 Z.b4 .nil pass0 (pa_cons (pv 2) pa_nil)) (pe_call G4 hr1 (by rfl) Z.g4 Z.k4 Z.b4 .nil pass0 (pa_cons (pe_callB call_len_seq (by rfl) N.len PySem.boot_len (pa_cons (pv 3) pa_nil)) pa_nil))) pa_nil)))
        (pss_one (ps_for PassesOwn.never rfl (pi_tup (pv 3)) (pg_tup (by rfl) (pgs_cons (pg_name (i := 4) scER.nd rfl (.inl rfl)) (pgs_cons (pg_name (i := 5) scER.nd rfl (.inl rfl)) (pgs_cons (pg_name (i := 6) scER.nd rfl (.inl rfl)) pgs_nil))))
          (pss_one (ps_expr (pe_bm PySem.F.plainAttrs_list PySem.F.slot_list_extend PySem.F.type_list_extend mt_extend (pv 1) (pa_cons (pe_op op_cat (pe_op op_cat (pe_call GN hr2 (by rfl) Z.gN Z.kN Z.bN .nil pass0 (pa_cons (pv 4) pa_nil)) (pe_call GS hr (by rfl) Z.gS Z.kS Z.bS .nil pass0 (pa_cons (pv 5) pa_nil))) (pe_call GC hr2 (by rfl) Z.gC Z.kC Z.bC .nil pass0 (pa_cons (pv 6) pa_nil))) pa_nil))))))))
      (pss_one (ps_ret (pe_op op_cat (pv 1) (pe_call G4 hr1 (by rfl) Z.g4 Z.k4 Z.b4 .nil pass0 (pa_cons (pe_call GU hr1 (by rfl) Z.gU Z.kU Z.bU .nil pass0 (pa_cons (pv 1) pa_nil)) pa_nil)))))), ?_⟩
    have nR : NoAttr K CR "upcoming" ∧ NoAttr K CR "data" ∧ NoAttr K CR "versions" := ⟨R.na _ (by decide +kernel), R.na _ (by decide +kernel), R.na _ (by decide +kernel)⟩
    have nta : ta ≠ a := ne_of hta ha (by intro z; cases z)
    refine ⟨kf, _, rfl, .inr (hf _), fun p1 n1 => ?_⟩
    refine ⟨_, rfl, a, CR, dx, _, .int up, rfl, same_new n1 _ _ ha, R.cl, nR.1, rfl, up, rfl, fun p2 n2 => ?_⟩
    have q12 : p1 ≠ p2 := ne_of_none upd_same n2
    refine ⟨p1, p2, _, _, rfl, rfl, by rw [upd_ne q12, upd_same], upd_same, (by show 2 + 4 ≤ sizeLine; decide), fun p3 n3 => ?_⟩
    refine ⟨_, rfl, a, CR, dx, _, .int da, rfl, same_new n3 _ _ (same_new n2 _ _ (same_new n1 _ _ ha)), R.cl, nR.2.1, rfl, da, rfl, fun p4 n4 => ?_⟩
    have q34 : p3 ≠ p4 := ne_of_none upd_same n4
    refine ⟨p3, p4, _, _, rfl, rfl, by rw [upd_ne q34, upd_same], upd_same, (by show 2 + 4 + 4 ≤ sizeLine; decide), fun p5 n5 => ?_⟩
    refine ⟨_, rfl, a, CR, dx, _, .ref ta, rfl, same_new n5 _ _ (same_new n4 _ _ (same_new n3 _ _ (same_new n2 _ _ (same_new n1 _ _ ha)))), R.cl, nR.2.2, rfl, ta, xs, rfl, .inr (SqT.of (same_new n5 _ _ (same_new n4 _ _ (same_new n3 _ _ (same_new n2 _ _ (same_new n1 _ _ hta)))))), _, rfl, fun p6 n6 => ?_⟩
    have q56 : p5 ≠ p6 := ne_of_none upd_same n6
    refine ⟨p5, p6, _, _, rfl, rfl, by rw [upd_ne q56, upd_same], upd_same, (by show 2 + 4 + 4 + 4 ≤ sizeLine; decide), fun p np => ?_⟩
    refine ⟨fun σ H2 => ∃ y2 y3 y4 y5 y6, σ = [some (.ref a), some (.ref p), y2, y3, y4, y5, y6] ∧ Same H H2 ∧ H2 p = some (.lst ((eRt up da rs).map V.int)), ?_, ?_⟩
    · have np0 : H p = none := (same_new n1).free ((same_new n2).free ((same_new n3).free ((same_new n4).free ((same_new n5).free ((same_new n6).free np)))))
      refine ⟨_, rfl, a, CR, dx, _, .ref ta, rfl, same_new np _ _ (same_new n6 _ _ (same_new n5 _ _ (same_new n4 _ _ (same_new n3 _ _ (same_new n2 _ _ (same_new n1 _ _ ha)))))), R.cl, nR.2.2, rfl, ta, rfl, ⟨_, SqT.of (same_new np _ _ (same_new n6 _ _ (same_new n5 _ _ (same_new n4 _ _ (same_new n3 _ _ (same_new n2 _ _ (same_new n1 _ _ hta)))))))⟩,
        for_it (walk_tup (xs := xs)) (fun i σ H2 => ∃ y2 y3 y4 y5 y6, σ = [some (.ref a), some (.ref p), y2, y3, y4, y5, y6] ∧ Same H H2 ∧ H2 p = some (.lst ((([77, 83] ++ w4 up ++ w4 da ++ w4 (rs.length : Int)) ++ (rs.take i).flatMap eVe).map V.int))) ?_ ?_ ?_ ?_⟩
      · refine ⟨none, none, none, none, none, rfl, fun z o e => same_new np _ _ (same_new n6 _ _ (same_new n5 _ _ (same_new n4 _ _ (same_new n3 _ _ (same_new n2 _ _ (same_new n1 _ _ e)))))), ?_⟩
        rw [upd_same, hall.1]
        rfl
      · rintro i σ H2 hi ⟨y2, y3, y4, y5, y6, rfl, s2, _⟩
        exact SqT.of (s2 _ _ hta)
      · rintro i x σ H2 H' hi ⟨y2, y3, y4, y5, y6, rfl, s2, hp⟩ ⟨rfl, hx⟩
        rw [hall.1] at hi
        obtain ⟨b, u, rfl, hb, ⟨tb, zs, rfl, htb, hzs⟩⟩ := hall.at hi hx
        have gv1 := gv _ (List.getElem_mem hi)
        have hle : (([77, 83] ++ w4 up ++ w4 da ++ w4 (rs.length : Int)) ++ (rs.take (i + 1)).flatMap eVe).length ≤ 900000 := by
          have := fm_take eVe rs (i + 1)
          unfold eRt at hl
          rw [List.length_append] at hl ⊢
          omega
        rw [fm_succ eVe hi, ← List.append_assoc] at hle ⊢
        generalize rs[i] = r at hb htb hzs gv1 hle ⊢
        generalize (([77, 83] ++ w4 up ++ w4 da ++ w4 (rs.length : Int)) ++ (rs.take i).flatMap eVe) = acc at hp hle ⊢
        refine ⟨b, _, rfl, SqT.of (s2 _ _ hb), rfl, _, _, rfl, _, _, rfl, rfl, ?_⟩
        refine ⟨_, rfl, .inl ⟨rfl, _, .inl (.inl hp)⟩, _, rfl, _, rfl, fun a1 m1 => ?_⟩
        refine ⟨_, rfl, tb, zs, rfl, .inr (SqT.of (same_new m1 _ _ (s2 _ _ htb))), _, rfl, fun a2 m2 => ?_⟩
        have r12 : a1 ≠ a2 := ne_of_none upd_same m2
        refine ⟨a1, a2, _, _, rfl, rfl, by rw [upd_ne r12, upd_same], upd_same, (by show 4 + 4 ≤ sizeLine; decide), fun a3 m3 => ?_⟩
        have len1 : acc.length + 8 ≤ 900000 := by
          rw [List.length_append] at hle
          unfold eVe at hle
          rw [List.length_append, List.length_append] at hle
          have : (w4 r.no).length = 4 := rfl
          have : (w4 (r.as.length : Int)).length = 4 := rfl
          omega
        refine ⟨p, a3, _, _, rfl, rfl, same_new m3 _ _ (same_new m2 _ _ (same_new m1 _ _ hp)), upd_same, ?_, ?_⟩
        · rw [List.length_map]
          exact big (by show acc.length + 8 ≤ _; omega)
        have sA : ∀ z o, H z = some o → (upd (upd (upd (upd H' a1 (.lst ((w4 r.no).map V.int))) a2 (.lst ((w4 (zs.length : Int)).map V.int))) a3 (.lst ((w4 r.no).map V.int ++ (w4 (zs.length : Int)).map V.int))) p (.lst (acc.map V.int ++ ((w4 r.no).map V.int ++ (w4 (zs.length : Int)).map V.int)))) z = some o := fun z o e => by
          rw [upd_ne (fun y => by rw [y, np0] at e; cases e)]
          exact same_new m3 _ _ (same_new m2 _ _ (same_new m1 _ _ (s2 _ _ e)))
        have hpA : (upd (upd (upd (upd H' a1 (.lst ((w4 r.no).map V.int))) a2 (.lst ((w4 (zs.length : Int)).map V.int))) a3 (.lst ((w4 r.no).map V.int ++ (w4 (zs.length : Int)).map V.int))) p (.lst (acc.map V.int ++ ((w4 r.no).map V.int ++ (w4 (zs.length : Int)).map V.int)))) p = some (.lst ((acc ++ (w4 r.no ++ w4 (r.as.length : Int))).map V.int)) := by
          rw [upd_same, hzs.1]
          simp only [List.map_append]
        have hle2 : ((acc ++ (w4 r.no ++ w4 (r.as.length : Int))) ++ r.as.flatMap eAr).length ≤ 900000 := by
          refine Nat.le_trans (Nat.le_of_eq ?_) hle
          unfold eVe
          simp only [List.length_append]
          omega
        have hend : acc ++ eVe r = (acc ++ (w4 r.no ++ w4 (r.as.length : Int))) ++ r.as.flatMap eAr := by
          unfold eVe
          simp only [List.append_assoc]
        rw [hend]
        generalize (upd (upd (upd (upd H' a1 (.lst ((w4 r.no).map V.int))) a2 (.lst ((w4 (zs.length : Int)).map V.int))) a3 (.lst ((w4 r.no).map V.int ++ (w4 (zs.length : Int)).map V.int))) p (.lst (acc.map V.int ++ ((w4 r.no).map V.int ++ (w4 (zs.length : Int)).map V.int)))) = HA at sA hpA ⊢
        generalize (acc ++ (w4 r.no ++ w4 (r.as.length : Int))) = acc2 at hpA hle2 ⊢
        refine ⟨_, rfl, tb, rfl, ⟨_, SqT.of (sA _ _ htb)⟩, for_it (walk_tup (xs := zs)) (fun j σ H2 => ∃ y4 y5 y6, σ = [some (.ref a), some (.ref p), some (.int r.no), some (.ref tb), y4, y5, y6] ∧ Same H H2 ∧ H2 p = some (.lst ((acc2 ++ (r.as.take j).flatMap eAr).map V.int))) ?_ ?_ ?_ ?_⟩
        · exact ⟨_, _, _, rfl, sA, by rw [List.take_zero, List.flatMap_nil, List.append_nil]; exact hpA⟩
        · rintro j σ H2 hj ⟨y4, y5, y6, rfl, s2, _⟩
          exact SqT.of (s2 _ _ htb)
        · rintro j x σ H2 H3 hj ⟨y4, y5, y6, rfl, s2, hp⟩ ⟨rfl, hx⟩
          rw [hzs.1] at hj
          have har := hzs.at hj hx
          have ga := gv1 _ (List.getElem_mem hj)
          have hle3 : (acc2 ++ (r.as.take (j + 1)).flatMap eAr).length ≤ 900000 := by
            have := fm_take eAr r.as (j + 1)
            rw [List.length_append] at hle2 ⊢
            omega
          rw [fm_succ eAr hj, ← List.append_assoc] at hle3 ⊢
          generalize r.as[j] = ar at har ga hle3 ⊢
          generalize (acc2 ++ (r.as.take j).flatMap eAr) = acc3 at hp hle3 ⊢
          obtain ⟨c, u, v, rfl, hc, hsh, hck⟩ := har
          have len3 : acc3.length + ((wn ar.n).length + (eSh ar.ds ar.ts).length + (eCs ar.cs).length) ≤ 900000 := by
            rw [List.length_append] at hle3
            unfold eAr at hle3
            rw [List.length_append, List.length_append] at hle3
            omega
          refine ⟨c, _, rfl, SqT.of (s2 _ _ hc), rfl, _, _, rfl, _, _, rfl, _, _, rfl, rfl, ?_⟩
          have gn := ga.n
          refine ⟨_, rfl, .inl ⟨rfl, _, .inl (.inl hp)⟩, _, rfl, ar.n, rfl, by omega, fun H4 p1 s4 n1 e1 => ?_⟩
          refine ⟨_, rfl, u, ar.ds, ar.ts, rfl, hsh.same (s2.trans s4), ga.d, ga.t, by omega, fun H5 p2 s5 n2 e2 => ?_⟩
          have e1b := s5 _ _ e1
          refine ⟨p1, p2, _, _, rfl, rfl, e1b, e2, ?_, fun p3 n3 => ?_⟩
          · rw [List.length_map, List.length_map]
            exact big (by omega)
          have s6 := same_new (o := .lst ((wn ar.n).map V.int ++ (eSh ar.ds ar.ts).map V.int)) n3
          refine ⟨_, rfl, v, ar.cs, rfl, hck.same (s2.trans (s4.trans (s5.trans s6))) (fun _ _ z => z.same (s2.trans (s4.trans (s5.trans s6)))), by omega, fun H7 p4 s7 n4 e4 => ?_⟩
          refine ⟨p3, p4, _, _, rfl, rfl, s7 _ _ upd_same, e4, ?_, fun p5 n5 => ?_⟩
          · rw [List.length_append, List.length_map, List.length_map, List.length_map]
            exact big (by omega)
          have s37 := s4.trans (s5.trans (s6.trans s7))
          refine ⟨p, p5, _, _, rfl, rfl, same_new n5 _ _ (s37 _ _ hp), upd_same, ?_, ?_⟩
          · rw [List.length_append, List.length_append, List.length_map, List.length_map, List.length_map, List.length_map]
            exact big (by omega)
          · refine ⟨_, _, _, rfl, fun z o e => ?_, ?_⟩
            · rw [upd_ne (fun y => by rw [y, np0] at e; cases e)]
              exact same_new n5 _ _ (s37 _ _ (s2 _ _ e))
            · rw [upd_same]
              unfold eAr
              simp only [List.map_append]
        · rintro σ H2 ⟨y4, y5, y6, rfl, s2, hp⟩
          rw [hzs.1, List.take_length] at hp
          exact ⟨_, _, _, _, _, rfl, s2, hp⟩
      · rintro σ H2 ⟨y2, y3, y4, y5, y6, rfl, s2, hp⟩
        rw [hall.1, List.take_length] at hp
        exact ⟨_, _, _, _, _, rfl, s2, hp⟩
    · rintro σ H2 ⟨y2, y3, y4, y5, y6, rfl, s2, hp⟩
      refine ⟨_, rfl, _, rfl, p, _, rfl, .inl (.inl hp), _, rfl, fun p8 n8 => ?_⟩
      have q8 : p ≠ p8 := ne_of_none hp n8
      refine ⟨p, p8, _, _, rfl, rfl, by rw [upd_ne q8]; exact hp, upd_same, ?_, fun p9 n9 => ?_⟩
      · rw [List.length_map, List.length_map]
        exact big (by show _ + 4 ≤ _; omega)
      · refine q _ p9 (fun z o e => same_new n9 _ _ (same_new n8 _ _ (s2 _ _ e))) (s2.free ((same_new n8).free n9)) ?_
        rw [upd_same, List.map_append]
end
end K2

namespace K2
open PySem L2
def ORf : List Str := ["octets", "at"]
structure RdAt (CO : Addr) (H : Hp) (r : Addr) (lo : Addr) (os : List Int) (at_ : Nat) : Prop where
  i : ∃ dx, H r = some (.ins CO dx [("octets", .ref lo), ("at", .int (at_ : Int))])
  o : H lo = some (.lst (os.map V.int))
  le : at_ ≤ os.length
/-- what else stood stays -/
def Ex (H H' : Hp) (r : Addr) : Prop := ∀ a o, H a = some o → a ≠ r → H' a = some o
theorem Ex.trans {H H1 H2 : Hp} {r : Addr} (a : Ex H H1 r) (b : Ex H1 H2 r) : Ex H H2 r := fun x o e n => b x o (a x o e n) n
theorem Ex.same {H H1 H2 : Hp} {r : Addr} (a : Ex H H1 r) (b : Same H1 H2) : Ex H H2 r := fun x o e n => b x o (a x o e n)
theorem Same.ex {H H1 : Hp} {r : Addr} (b : Same H H1) : Ex H H1 r := fun x o e _ => b x o e
theorem RdAt.same {CO : Addr} {H H1 : Hp} {r lo : Addr} {os : List Int} {n : Nat} (h : RdAt CO H r lo os n) (s : Same H H1) : RdAt CO H1 r lo os n := by
  obtain ⟨dx, e⟩ := h.i
  exact ⟨⟨dx, s _ _ e⟩, s _ _ h.o, h.le⟩
theorem drop_add' {os xs rest : List Int} {n : Nat} (h : os.drop n = xs ++ rest) : os.drop (n + xs.length) = rest := by
  rw [← List.drop_drop, h, List.drop_left]
section
variable {P : Program} {w : World} {K : PySem.W.Frag} {mg : Str → Option Value} {base : Heap}
def spORI (K : PySem.W.Frag) (CO : Addr) : Sp := fun vs H Q _ => ∃ (x dx l : Addr) (os : List Int), vs = [.ref x, .ref l] ∧ H x = some (.ins CO dx []) ∧ SqL K H l (os.map V.int) ∧
  ∀ H' lo, Ex H H' x → H lo = none → RdAt CO H' x lo os 0 → Q .non H'
theorem scORI : FnScope ["self", "octets"] ["self", "octets"] (defScope sOctetReaderInit) := ⟨rfl, rfl, rfl, by decide +kernel, rfl, by decide +kernel, by decide +kernel⟩
theorem ok_orI {f CO : Addr} {fd : FuncData} (F : Fun K "__init__" "OctetReader.__init__" sOctetReaderInit f fd) (N : Nm mg) (T : KC K CO f ORf) : FnOk P w K mg base CX0 1 f fd ["self", "octets"] (spORI K CO) := by
  refine F.ok scORI (fun vs H Q E h => ?_) (fun cdv A outer s H vs Q E hr h => ?_)
  · obtain ⟨x, dx, l, os, rfl, _⟩ := h
    rfl
  · obtain ⟨x, dx, l, os, rfl, hx, hl, q⟩ := h
    refine ⟨_, pss_cons (ps_fld (pv 0) (pe_callTy call_list_of (by rfl) N.list (by decide +kernel) (pa_cons (pv 1) pa_nil)) rfl) (pss_one (ps_fld (pv 0) pe_int rfl)), ?_⟩
    refine ⟨_, rfl, l, _, rfl, .inl hl, fun r nr => ?_⟩
    have nxr : x ≠ r := ne_of_none hx nr
    refine ⟨_, rfl, x, CO, dx, [], rfl, by rw [upd_ne nxr]; exact hx, T.cl, T.na _ (by decide +kernel), (by decide), ?_⟩
    refine ⟨_, rfl, x, CO, dx, _, rfl, upd_same, T.cl, T.na _ (by decide +kernel), (by show 1 < 1000; decide), q _ r (fun c o h n => ?_) nr ⟨⟨dx, upd_same⟩, ?_, Nat.zero_le _⟩⟩
    · rw [upd_ne n, upd_ne n, upd_ne (ne_of_none h nr)]
      exact h
    · rw [upd_ne nxr.symm, upd_ne nxr.symm, upd_same]
theorem scNO : FnScope ["self", "count", "taken"] ["self", "count"] (defScope sOctetReaderNextOctets) := ⟨rfl, rfl, rfl, by decide +kernel, rfl, by decide +kernel, by decide +kernel⟩
theorem cutab {xs : List V} (a b : Nat) : cutV xs (some (a : Int)) (some ((a : Int) + (b : Int))) = (xs.drop a).take b := by
  unfold cutV
  rw [show (a : Int) + (b : Int) = ((a + b : Nat) : Int) from by omega, show HT.sIx xs.length 0 (some (a : Int)) = min a xs.length from HT.sIx_nat _ _ a, show HT.sIx xs.length xs.length (some ((a + b : Nat) : Int)) = min (a + b) xs.length from HT.sIx_nat _ _ (a + b)]
  by_cases h : a ≤ xs.length
  · rw [Nat.min_eq_left h]
    by_cases g : a + b ≤ xs.length
    · rw [Nat.min_eq_left g, Nat.add_sub_cancel_left]
    · rw [Nat.min_eq_right (by omega), List.take_of_length_le (by rw [List.length_drop]; omega), List.take_of_length_le (by rw [List.length_drop]; omega)]
  · rw [Nat.min_eq_right (by omega), Nat.min_eq_right (by omega), List.drop_of_length_le (Nat.le_refl _), List.drop_of_length_le (by omega)]
    simp
theorem scOf : FnScope ["self", "allowed", "first", "octet"] ["self", "allowed"] (defScope sOctetReaderNextOctetOf) := ⟨rfl, rfl, rfl, by decide +kernel, rfl, by decide +kernel, by decide +kernel⟩
theorem flat_ints (ls : List Int) : (ls.map V.int).all flatV = true := by
  rw [List.all_eq_true]
  intro x hx
  obtain ⟨i, _, rfl⟩ := List.mem_map.mp hx
  rfl
theorem inV_int {o : Int} {ls : List Int} (h : o ∈ ls) : inV (.int o) (ls.map V.int) = true := by
  unfold inV
  rw [List.any_eq_true]
  exact ⟨.int o, List.mem_map.mpr ⟨o, h, rfl⟩, by show (o == o) = true; exact beq_self_eq_true o⟩
theorem four_of {n : Int} (h0 : 0 ≤ n) (h1 : n < 4294967296) : ((((0 : Int) * 256 + n / 16777216 % 256) * 256 + n / 65536 % 256) * 256 + n / 256 % 256) * 256 + n % 256 = n := by omega
def fo (os : List Int) : Int := os.foldl (fun a o => a * 256 + o) 0
theorem fo_w4 {n : Int} (h0 : 0 ≤ n) (h1 : n < 4294967296) : fo (w4 n) = n := four_of h0 h1
theorem scN4 : FnScope ["self", "number", "octet"] ["self"] (defScope sOctetReaderNextFour) := ⟨rfl, rfl, rfl, by decide +kernel, rfl, by decide +kernel, by decide +kernel⟩
theorem scN4i : FnScope ["self", "least", "greatest", "first", "number"] ["self", "least", "greatest"] (defScope sOctetReaderNextFourIn) := ⟨rfl, rfl, rfl, by decide +kernel, rfl, by decide +kernel, by decide +kernel⟩
end
end K2

namespace K2
open PySem L2
/-! what a reader finds: a value and the place behind it, or a fault (true: cut short) and its place -/
abbrev Re (α : Type) := Except (Bool × Nat) (α × Nat)
def bd {α β : Type} (x : Re α) (f : α → Nat → Re β) : Re β := match x with
  | .ok (a, n) => f a n
  | .error e => .error e
def tk (k : Nat) (os : List Int) (n : Nat) : Re (List Int) := if n + k ≤ os.length then .ok ((os.drop n).take k, n + k) else .error (true, os.length)
def p1 (os : List Int) (n : Nat) : Re Int := bd (tk 1 os n) fun xs m => .ok (xs.headD 0, m)
def p4 (os : List Int) (n : Nat) : Re Int := bd (tk 4 os n) fun xs m => .ok (fo xs, m)
def p4i (a b : Int) (os : List Int) (n : Nat) : Re Int := bd (p4 os n) fun v m => if a ≤ v ∧ v ≤ b then .ok (v, m) else .error (false, n)
def pof (ls : List Int) (os : List Int) (n : Nat) : Re Int := bd (p1 os n) fun o m => if o ∈ ls then .ok (o, m) else .error (false, n)
def NCH : Str := "ABCDEFGHIJKLMNOPQRSTUVWXYZabcdefghijklmnopqrstuvwxyz0123456789_"
def DIG : Str := "0123456789"
def hd0 (z : Str) : Nat := z.cps.toList.getD 0 0
def simp (z : Str) : Bool := decide (1 ≤ (z.length : Int)) && decide ((z.length : Int) ≤ 30) && (decide (Txt.stripChars z NCH = ("" : Str)) && decide (¬ hd0 z ∈ DIG.cps.toList))
def txt (xs : List Int) : Str := ⟨(xs.map Int.toNat).toArray⟩
def ncode (o : Int) : Bool := decide (o.toNat ∈ NCH.cps.toList)
def nmOk (xs : List Int) : Bool := xs.all ncode && simp (txt xs)
def pname (os : List Int) (n : Nat) : Re Str := bd (p1 os n) fun k m => bd (tk k.toNat os m) fun xs j => if nmOk xs = true then .ok (txt xs, j) else .error (false, n)
def pdim (os : List Int) (n : Nat) : Re D := bd (pname os n) fun s m => bd (p4 os m) fun l m => bd (p4 os m) fun h m => bd (p4 os m) fun st m => .ok (⟨s, l - 2147483648, h - 2147483648, st⟩, m)
def pattr (os : List Int) (n : Nat) : Re T := bd (pname os n) fun s m => bd (pof [0, 1, 2] os m) fun k m => .ok (⟨s, KS.getD k.toNat ""⟩, m)
def rep {α : Type} (p : List α → Nat → Re α) : Nat → Nat → Re (List α)
  | 0, n => .ok ([], n)
  | k + 1, n => bd (rep p k n) fun l m => bd (p l m) fun a j => .ok (l ++ [a], j)
def okD (d : D) : Bool := simp d.n && (decide (-1000000 ≤ d.l) && (decide (d.l ≤ d.h) && decide (d.h ≤ 1000000)) && (decide (1 ≤ d.s) && decide (d.s ≤ 1000000)))
def okT (t : T) : Bool := simp t.n && decide (t.k ∈ KS)
def names (ns : List Str) : List (Str × Bool) → Bool
  | [] => true
  | (n, g) :: r => g && decide (n ∉ ns) && names (ns ++ [n]) r
def chk (ds : List D) (ts : List T) : Bool := decide (1 ≤ ds.length ∧ ds.length ≤ 6) && decide (1 ≤ ts.length ∧ ts.length ≤ 16) && names [] (ds.map (fun d => (d.n, okD d)) ++ ts.map fun t => (t.n, okT t))
def pshape (os : List Int) (n : Nat) : Re (List D × List T) := bd (p1 os n) fun a m => bd (rep (fun _ => pdim os) a.toNat m) fun ds m => bd (p1 os m) fun b m => bd (rep (fun _ => pattr os) b.toNat m) fun ts m =>
  if chk ds ts = true then .ok ((ds, ts), m) else .error (false, n)
def inBx : List D → List Int → Bool
  | d :: ds, c :: cs => decide (c ≤ (d.h - d.l) / d.s) && inBx ds cs
  | _, _ => true
def pck (ds : List D) (os : List Int) (l : List Ck) (n : Nat) : Re Ck := bd (rep (fun _ => p4 os) ds.length n) fun c m =>
  if inBx ds c = true ∧ (∀ x ∈ l.getLast?, HT.lexLt x.c c = true) then bd (p4 os m) fun o m => bd (p4 os m) fun len m => .ok (⟨c, o, len⟩, m) else .error (false, n)
def pcks (ds : List D) (os : List Int) (n : Nat) : Re (List Ck) := bd (p4 os n) fun k m => rep (pck ds os) k.toNat m
def parr (os : List Int) (l : List Ar) (n : Nat) : Re Ar := bd (pname os n) fun s m =>
  if ∀ x ∈ l.getLast?, x.n.cps.toList < s.cps.toList then bd (pshape os m) fun sh m => bd (pcks sh.1 os m) fun cs m => .ok (⟨s, sh.1, sh.2, cs⟩, m) else .error (false, n)
def parrs (os : List Int) (n : Nat) : Re (List Ar) := bd (p4 os n) fun k m => rep (parr os) k.toNat m
def lastNo (l : List Ve) : Int := match l.getLast? with
  | some v => v.no
  | none => 0
def pver (up : Int) (os : List Int) (l : List Ve) (n : Nat) : Re Ve := bd (p4i (lastNo l + 1) (up - 1) os n) fun v m => bd (parrs os m) fun as m => .ok (⟨v, as⟩, m)
def proot (os : List Int) : Re (Int × Int × List Ve) := bd (pof [77] os 0) fun _ m => bd (pof [83] os m) fun _ m => bd (p4i 1 4294967295 os m) fun up m => bd (p4 os m) fun da m => bd (p4 os m) fun k m =>
  bd (rep (pver up os) k.toNat m) fun vs m => bd (p4i (sumO (os.take m)) (sumO (os.take m)) os m) fun _ j => if j = os.length then .ok ((up, da, vs), j) else .error (false, j)
theorem bd_ok {α β : Type} {x : Re α} {f : α → Nat → Re β} {a : α} {n : Nat} (e : x = .ok (a, n)) : bd x f = f a n := by rw [e]; rfl
theorem bd_err {α β : Type} {x : Re α} {f : α → Nat → Re β} {e : Bool × Nat} (h : x = .error e) : bd x f = .error e := by rw [h]; rfl
theorem rep_err {α : Type} {p : List α → Nat → Re α} {n : Nat} {e : Bool × Nat} {i : Nat} : ∀ {k : Nat}, i ≤ k → rep p i n = .error e → rep p k n = .error e
  | 0, h, x => by
    obtain rfl : i = 0 := by omega
    exact x
  | k + 1, h, x => by
    rcases Nat.lt_or_eq_of_le h with h | h
    · exact bd_err (rep_err (Nat.lt_succ_iff.mp h) x)
    · rw [← h]
      exact x
/-- octets, and not too many -/
structure Os (os : List Int) : Prop where
  o : ∀ o ∈ os, 0 ≤ o ∧ o ≤ 255
  l : os.length ≤ 100000
theorem tk_ok {k : Nat} {os xs : List Int} {n m : Nat} (h : tk k os n = .ok (xs, m)) : n + k ≤ os.length ∧ xs = (os.drop n).take k ∧ m = n + k := by
  unfold tk at h
  split at h
  · rename_i q
    injection h with h
    injection h with h1 h2
    exact ⟨q, h1.symm, h2.symm⟩
  · cases h
theorem tk_len {k : Nat} {os xs : List Int} {n m : Nat} (h : tk k os n = .ok (xs, m)) : xs.length = k ∧ ∀ o ∈ xs, o ∈ os := by
  obtain ⟨h1, rfl, _⟩ := tk_ok h
  refine ⟨by rw [List.length_take, List.length_drop]; omega, fun o ho => List.mem_of_mem_drop (List.mem_of_mem_take ho)⟩
theorem p1_ok {os : List Int} {o : Int} {n m : Nat} (h : p1 os n = .ok (o, m)) : n < os.length ∧ m = n + 1 ∧ tk 1 os n = .ok ([o], m) ∧ o ∈ os := by
  unfold p1 at h
  cases e : tk 1 os n with
  | error x => rw [bd_err e] at h; cases h
  | ok x =>
    obtain ⟨xs, j⟩ := x
    rw [bd_ok e] at h
    injection h with h
    injection h with h1 h2
    obtain ⟨q1, q2, q3⟩ := tk_ok e
    obtain ⟨l1, l2⟩ := tk_len e
    match xs, l1 with
    | [y], _ =>
      have : y = o := h1
      subst this h2
      exact ⟨by omega, q3, rfl, l2 _ List.mem_cons_self⟩
theorem fo_bound {xs : List Int} (h : ∀ o ∈ xs, 0 ≤ o ∧ o ≤ 255) : xs.length ≤ 4 → 0 ≤ fo xs ∧ fo xs < 4294967296 := fun hl => by
  unfold fo
  match xs, hl with
  | [], _ => exact ⟨by decide, by decide⟩
  | [a], _ =>
    have ha := h a (by simp)
    simp only [List.foldl]
    omega
  | [a, b], _ =>
    have ha := h a (by simp)
    have hb := h b (by simp)
    simp only [List.foldl]
    omega
  | [a, b, c], _ =>
    have ha := h a (by simp)
    have hb := h b (by simp)
    have hc := h c (by simp)
    simp only [List.foldl]
    omega
  | [a, b, c, d], _ =>
    have ha := h a (by simp)
    have hb := h b (by simp)
    have hc := h c (by simp)
    have hd := h d (by simp)
    simp only [List.foldl]
    omega
theorem p4_ok {os : List Int} {v : Int} {n m : Nat} (h : p4 os n = .ok (v, m)) (O : Os os) : (0 ≤ v ∧ v < 4294967296) ∧ m = n + 4 ∧ m ≤ os.length ∧ tk 4 os n = .ok ((os.drop n).take 4, m) ∧ v = fo ((os.drop n).take 4) := by
  unfold p4 at h
  cases e : tk 4 os n with
  | error x => rw [bd_err e] at h; cases h
  | ok x =>
    obtain ⟨xs, j⟩ := x
    rw [bd_ok e] at h
    injection h with h
    injection h with h1 h2
    obtain ⟨q1, q2, q3⟩ := tk_ok e
    obtain ⟨l1, l2⟩ := tk_len e
    subst h1 h2 q2
    exact ⟨fo_bound (fun o ho => O.o o (l2 o ho)) (by omega), q3, by omega, rfl, rfl⟩
end K2

namespace PySem.W
open PySem PySem.Spec PySem.Calls PyProof.Rows Builtin Builtin.ObjectAttr Builtin.Getset_descriptor
section
variable {prog : Program} {w : World} {A : Around} {E : Value → Shared → Prop} {s : Shared} {K : Frag} {x C : Addr} {ox : Obj} {od : Option Obj} {R : Result → Shared → Prop}
/-- e.__class__, as an expression, for an instance of an exception class of the program -/
theorem mx_classE {gt : Option Value} {Q : Value → Shared → Prop} {ex : Bool} (X : K.In s.heap) (I : InstAt s.heap x ox C od) (hga : findIn K (.ref C) "__getattribute__" = some (some (.builtin "BaseException.__getattribute__"))) (hgt : findIn K (.ref C) "__getattr__" = some gt)
    (hsub : subIn K (.ref C) (.type "BaseException") = some true) (hf : findObj K C od "__class__" = some (.bind (.builtin "getset_descriptor.__get__") (.builtin "object.__class__"))) (hm : mroIn K C (.type "object") = some true)
    (h : Q (.ref C) { s with toks := s.toks + 1 }) : wpAny (model prog w) A (getAttr (.ref x) "__class__" ex) Q E s := by
  obtain ⟨hp, g, d, t, os⟩ := s
  have L0 := I.type (M := model prog w)
  have L1 := looks_findIn (M := model prog w) X hga
  have L2 := looks_findIn (M := model prog w) X hgt
  have L3 := looks_find (M := model prog w) X I hf
  have sub : Looks (model prog w) hp (isInstance (.ref x) (.type "BaseException")) true := L0.andThen (looks_subIn X hsub)
  have hx0 : (ex && onTheHeap (Value.builtin "BaseException.__getattribute__")) = false := by cases ex <;> rfl
  have hx2 : (Value.builtin "BaseException.__getattribute__" == Value.builtin "object.__getattribute__") = false := by decide +kernel
  have hx1 : (onTheHeap (Value.ref C) && Value.builtin "BaseException.__getattribute__" == Value.builtin "object.__getattribute__") = false := by rw [hx2]; rfl
  unfold getAttr getAttrBy
  refine wpAny_bind (wpAny_mkText (wpAny_holding (wpAny_bind (L0.at (wpAny_bind (L1.at ?_))))))
  show wpAny _ _ (if (onTheHeap (Value.ref C) && Value.builtin "BaseException.__getattribute__" == Value.builtin "object.__getattribute__") = true then _ else _) _ _ _
  rw [hx1, if_neg Bool.false_ne_true]
  unfold getAttrByItsOwn hookBefore
  refine wpAny_bind ?_
  rw [if_pos (show onTheHeap (Value.ref C) = true from rfl)]
  refine L2.at ?_
  refine wpAny_bind (wpAny_attempt (wpAny_holding ?_))
  unfold callGetattribute
  rw [hx0, if_neg Bool.false_ne_true]
  unfold boundAndCalled
  rw [PySem.F.excAttr_ValueError.ga.bind (.ref x)]
  refine wpAny_bind (wpAny_pure ?_)
  show wpAny _ _ (call (.builtin "BaseException.__getattribute__") [.ref x, .str "__class__" t]) _ _ _
  refine wpAny_call (codeAny_call_builtin PySem.F.excAttr_ValueError.ga.plain PySem.F.entry_bexc_ga ?_)
  refine @PySem.W.check_slot (model prog w) _ _ ⟨hp, g, d, t + 1, os⟩ "BaseException.__getattribute__" "BaseException" "__getattribute__" (.ref x) [.str "__class__" t] [] _ (by decide +kernel) (by decide +kernel) sub (PySem.F.args_bexc_ga (.ref x) (.str "__class__" t)) ?_
  unfold Builtin.«object.__getattribute__»
  refine wpAny_bind (wpAny_of_eq (a := ((Value.ref x : Value), [Value.str "__class__" t])) (by first | rfl | (simp only [slotArgs]; rfl)) ?_)
  refine wpAny_bind (wpAny_pure (wpAny_bind (L0.at (wpAny_bind (L3.at ?_)))))
  refine wpAny_bind (wpAny_holding (wpAny_call (class_get (s := ⟨hp, g, d, t + 1, os⟩) (ox := ox) (od := od) X I hm ?_)))
  refine wpAny_pure ?_
  show wpAny _ _ (handedOut (.ref C)) _ _ _
  rw [handedOut_of (show handedIn (.ref C) = true from rfl)]
  first | exact wpAny_pure h | exact wpAny_pure (wpAny_pure h)
/-- C.__name__ of a class of the program whose name is kept -/
theorem mx_nameC {o : Obj} {nm : Str} {tk : Tok} {tp : Value} (X : K.In s.heap) (ht : typeIn K (.ref C) = some (.type "type")) (hl : K.lookup C = some o) (hs : o.slots[2]? = some (some (.str nm tk))) (h : R (.ok (.ret (.str nm tk))) s) :
    codeAny (model prog w) A (.call (.builtin "getset_descriptor.__get__") ⟨[.builtin "type.__name__", .ref C, tp], []⟩) R s := by
  obtain ⟨hh, g, dr, t, os⟩ := s
  have L0 := looks_typeIn (M := model prog w) X ht
  have L1 : Looks (model prog w) hh (isSubtype (.type "type") (.type "type")) true := Looks.of_pure (by rw [isSubtype_type]; kernel_rfl)
  have ho := X _ _ hl
  refine codeAny_call_builtin KF.slot_gs.plain KF.entry_gs (KF.slot_gs.check _ _ _ _ _ _ _ _ ktyn_type (KF.args_gs _ _ _) ?_)
  unfold Builtin.«getset_descriptor.__get__» descrGet
  rw [dga_obj]
  refine wpAny_bind (wpAny_pure ?_)
  unfold descrGetter descrCheckInstance descrNameAndClass isInstance
  simp only [ktyn_owner]
  repeat lk
  refine ⟨Code.quiet_builtin _ (by decide +kernel), codeAny_builtin ktyn_entry ?_⟩
  unfold Builtin.«type.__name__»
  dsimp only
  unfold keptObject slotAt
  dsimp only
  refine wpAny_bind (wpAny_bind (wpAny_loadPart ho (wpAny_pure ?_)))
  rw [hs]
  first
    | exact wpAny_bind (wpAny_pure h)
    | exact wpAny_pure h
    | exact wpAny_bind (wpAny_pure (wpAny_pure h))
end
end PySem.W
namespace L2
open PySem PySem.Spec PyProof.Rows
/-- what the written part says of an exception class's name -/
structure NameC (K : PySem.W.Frag) (C : Addr) (nm : Str) : Prop where
  rd : PySem.W.readsIn K C (.type "type") = true
  fc : PySem.W.findCls K (.ref C) (.type "type") "__name__" = some (.get (.builtin "getset_descriptor.__get__") (.builtin "type.__name__") (.ref C) (.type "type"))
  ty : PySem.W.typeIn K (.ref C) = some (.type "type")
  lk : ∃ o tk, K.lookup C = some o ∧ o.slots[2]? = some (some (.str nm tk))
/-- e.__class__, e an exception that is being made -/
def tECls (K : PySem.W.Frag) (te : TE) : TE := fun σ H Q => te σ H fun x H1 => ∃ (a C : Addr) (d : Option Addr), x = .ref a ∧ ExcC K C ∧ H1 a = some (exo a C d) ∧ (∀ dx, d = some dx → ∃ fs, H1 dx = some (exd dx fs)) ∧ Q (.ref C) H1
/-- C.__name__ -/
def tCNm (K : PySem.W.Frag) (te : TE) : TE := fun σ H Q => te σ H fun x H1 => ∃ (C : Addr) (nm : Str), x = .ref C ∧ NameC K C nm ∧ Q (.str nm) H1
section
variable {X : Cx} {e : Expr} {te : TE} {pos : Pos}
theorem pe_eclass (he : PE X e te) (hb : attributeBase e "__class__" X.env (eval e X.env) = eval e X.env := by rfl) : PE X (.Attribute e "__class__" pos) (tECls X.K te) := by
  refine ⟨fun pins s σ H Q I h => ?_⟩
  refine attr_of hb (thn (he.run pins s σ H _ I h) fun u s1 ⟨x, H1, I1, rx, a, C, d, ex, T, ea, hd, q⟩ => ?_)
  subst ex
  obtain rfl : u = Value.ref a := rx
  obtain ⟨t1, ho⟩ := exo_at I1.hok ea
  have hcl : (PySem.W.clsIn X.K C).isSome = true := by
    obtain ⟨cd, hc, _⟩ := PySem.W.any_some T.hd
    rw [hc]
    rfl
  have key : ∀ od, PySem.W.InstAt s1.heap a { cls := .ref C, dict := d, data := .fields #[.ref t1, .none, .none, .none, .bool false, .none] } C od → wpAny (model X.prog X.w) X.A (getAttr (.ref a) "__class__" true) (EP X pins σ Q) X.xe s1 := fun od J =>
    PySem.W.mx_classE I1.kIn J T.hg T.hk T.hs (PySem.W.findObj_dataE hcl T.ha T.hn T.ht) T.hm ⟨.ref C, H1, I1.tok _, rfl, q⟩
  cases d with
  | none => exact key none ⟨ho, rfl, rfl, trivial⟩
  | some dx =>
    obtain ⟨fs, ed⟩ := hd dx rfl
    obtain ⟨mA, ⟨oD, _, _, hoD, _⟩, _⟩ := exd_at I1.hok ed
    exact key (some oD) ⟨ho, rfl, rfl, hoD⟩
theorem pe_cname (he : PE X e te) (hb : attributeBase e "__name__" X.env (eval e X.env) = eval e X.env := by rfl) : PE X (.Attribute e "__name__" pos) (tCNm X.K te) := by
  refine ⟨fun pins s σ H Q I h => ?_⟩
  refine attr_of hb (thn (he.run pins s σ H _ I h) fun u s1 ⟨x, H1, I1, rx, C, nm, ex, T, q⟩ => ?_)
  subst ex
  obtain rfl : u = Value.ref C := rx
  obtain ⟨o, tk, hl, hs⟩ := T.lk
  refine PySem.W.cls_bind I1.kIn T.rd T.fc (wpAny_call (PySem.W.mx_nameC (s := { s1 with toks := s1.toks + 1 }) I1.kIn T.ty hl hs ?_))
  exact PySem.W.handed_on rfl ⟨.str nm, H1, I1.tok _, ⟨_, rfl⟩, q⟩
/-- isinstance(e, c), e the exception that the suite holds, which has its dict -/
def rIsE2 (K : PySem.W.Frag) (D a : Addr) (cls : Value) (d : Option Addr) : List V → Hp → VK → Prop := fun xs H Q => ∃ (c : V) (cv : Value) (b : Bool) (dd : Addr) (fs : List (Str × V)), xs = [.ref a, c] ∧ cls = .ref D ∧ d = some dd ∧ H dd = some (.xd fs) ∧ (∀ u, RelV c u → u = cv) ∧ PySem.W.kitOne K (.ref D) cv = some b ∧ Q (.bl b) H
theorem call_isE2 {a D : Addr} {oe : Obj} {cls : Value} {d : Option Addr} {pn : List (Addr × Obj)} (C : ExcC X.K D) (hz : Zc cls d oe) (hf : ∃ vs, oe.data = .fields vs) : CallR (X.suite a ((a, oe) :: pn)) (.builtin "isinstance") (rIsE2 X.K D a cls d) := by
  intro pins s σ H xs us Q I r h
  obtain ⟨c, cv, b, dd, fs, rfl, ec, ed, ea, hcv, e, q⟩ := h
  subst ec
  cases r with
  | cons rx rr =>
    cases rr with
    | cons rt rr =>
      cases rr
      cases rx
      have ec := hcv _ rt
      subst ec
      obtain ⟨hget, _⟩ := I.pin (a, oe) (List.mem_append.mpr (.inl List.mem_cons_self))
      obtain ⟨vs, hv⟩ := hf
      have hx : ObjOk X.prog X.w H s.heap dd (.xd fs) := I.hok dd _ ea
      obtain ⟨mA, ⟨od, _, _, hod, _⟩, _⟩ := hx
      have hcl : (PySem.W.clsIn X.K D).isSome = true := by
        obtain ⟨cd, hc, _⟩ := PySem.W.any_some C.hd
        rw [hc]
        rfl
      have J : PySem.W.InstAt s.heap a oe D (some od) := ⟨hget, hz.1, by unfold PySem.W.notCls; rw [hv] <;> rfl, by rw [hz.2, ed]; exact hod⟩
      exact PySem.W.kia_one (PySem.W.kitx_exc hcl C.hg C.hk C.hs C.ha C.hn C.ht C.hm) I.kIn J e (fun z => nomatch z) fun tk => ⟨.bl b, H, I.kept (t' := tk) fun _ _ z => z, rfl, q⟩
theorem passNo {X : Cx} : Passes (L2.CX X.prog X.w) X (fun _ _ _ => False) := fun _ _ _ _ _ _ _ h => by
  obtain ⟨_, _, _, _, _, _, _, _, _, _, _, _, q⟩ := h
  exact q.elim
end
end L2

namespace L2
open PySem PySem.Spec PyProof.Rows
/-- o.m(e, ..), what is raised is wished for at the caller's slots -/
def tMethX (C : Addr) (m : Str) (sp : Sp) (E : St → XK) (ta : TE) (t : TA) : TE := fun σ H Q => ta σ H fun x H1 => ∃ a dx fs, x = .ref a ∧ H1 a = some (.ins C dx fs) ∧ fs.lookup m = none ∧
    t σ H1 fun vs H2 => sp (x :: vs) H2 Q (E σ)
section
variable {X : Cx} {CX : CXT} {k : Nat} {f C : Addr} {fd : FuncData} {ps : List Str} {sp : Sp} {E : St → XK} {m : Str} {pos apos : Pos} {e o : Expr} {es : List Expr} {ta : TE} {t : TA}
theorem pe_methX {pl : Sem Bool} (ho : PE X o ta) (cl : Cls X.K C) (hm : Meth X.K C m f) (F : FnOk X.prog X.w X.K X.mg X.base CX k f fd ps sp) (room : Room k X.A) (hb : Binds X.K fd ps []) (hx : ∀ σ, PassesAt CX X σ (E σ)) (ha : PA X (e :: es) t)
    (hst : starEach (e :: es) X.env = (false, eval e X.env) :: starEach es X.env := by rfl) (hpl : (backTo pos (starEach es X.env)).any (·.1) = false := by rfl)
    (ht : eval (.Call (.Attribute o m apos) (e :: es) [] pos) X.env = (do
        let ov ← eval o X.env
        standAt apos.atName
        let (g, one) ← holding [ov] (getMethod ov m pl)
        callWith pos g one (backTo pos (starEach (e :: es) X.env)) (backToKw pos (keywordEach [] X.env))) := by rfl) : PE X (.Call (.Attribute o m apos) (e :: es) [] pos) (tMethX C m sp E ta t) := by
  refine ⟨fun pins s σ H Q I h => PySem.W.methodCall_KW (pl := pl) (thn (ho.run pins s σ H _ I h) fun u s1 ⟨x, H1, I1, rx, a, dx, fs, ex, ea, l, q⟩ => ?_) ht⟩
  subst ex
  obtain rfl : u = Value.ref a := rx
  refine getmeth_ok I1 ea cl hm l (PySem.W.callWith_K (first := [.ref a]) (h₀ := X.base) I.ok.mod.kin hm.kp (thn (ha.run pos pins s1 σ H1 _ I1 q) fun us s2 ⟨vs, H2, I2, r, q2⟩ => ⟨I2.kIn, ?_⟩) hst hpl)
  exact run_fnS (us := .ref a :: us) (vs := .ref a :: vs) F room hb (hx σ) I2 (.cons rfl r) q2
theorem pe_methX0 {pl : Sem Bool} (ho : PE X o ta) (cl : Cls X.K C) (hm : Meth X.K C m f) (F : FnOk X.prog X.w X.K X.mg X.base CX k f fd ps sp) (room : Room k X.A) (hb : Binds X.K fd ps []) (hx : ∀ σ, PassesAt CX X σ (E σ))
    (ht : eval (.Call (.Attribute o m apos) [] [] pos) X.env = (do
        let ov ← eval o X.env
        standAt apos.atName
        let (g, one) ← holding [ov] (getMethod ov m pl)
        callWith pos g one (backTo pos (starEach [] X.env)) (backToKw pos (keywordEach [] X.env))) := by rfl) : PE X (.Call (.Attribute o m apos) [] [] pos) (tMethX C m sp E ta tNil) := by
  refine ⟨fun pins s σ H Q I h => PySem.W.methodCall_KW (pl := pl) (thn (ho.run pins s σ H _ I h) fun u s1 ⟨x, H1, I1, rx, a, dx, fs, ex, ea, l, q⟩ => ?_) ht⟩
  subst ex
  obtain rfl : u = Value.ref a := rx
  exact getmeth_ok I1 ea cl hm l (PySem.W.callWith_K0 (first := [.ref a]) I1.kIn hm.kp (run_fnS (us := [.ref a]) (vs := [.ref a]) F room hb (hx σ) I1 (.cons rfl .nil) q))
end
end L2
namespace K2
open PySem L2
structure ErrC (K : PySem.W.Frag) (C fI : Addr) (nm : Str) : Prop where
  oc : OexC K C
  ec : ExcC K C
  nc : NameC K C nm
  xf : XfC K C
  noP : PySem.W.findIn K (.ref C) "place" = some none
  noN : PySem.W.findIn K (.ref C) "name" = some none
  iC : PySem.W.findIn K (.ref C) "__init__" = some (some (.ref fI))
  tI : PySem.W.typeIn K (.ref fI) = some (.type "function")
section
variable {P : Program} {w : World} {K : PySem.W.Frag} {mg : Str → Option Value} {base : Heap}
def spInit (K : PySem.W.Frag) (fI : Addr) : Sp := fun vs H Q _ => ∃ (a C : Addr) (nm : Str) (v : V), vs = [.ref a, v] ∧ ErrC K C fI nm ∧ H a = some (exo a C none) ∧
  ∀ dx, H dx = none → dx ≠ a → Q .non (upd (upd (upd H dx (exd dx [("place", v)])) a (exo a C (some dx))) dx (exd dx [("name", .str nm), ("place", v)]))
theorem scInit : FnScope ["self", "place"] ["self", "place"] (defScope sInit) := ⟨rfl, rfl, rfl, by decide +kernel, rfl, by decide +kernel, by decide +kernel⟩
theorem ok_init {f : Addr} {fd : FuncData} (F : Fun K "__init__" "ManysidesError.__init__" sInit f fd) : FnOk P w K mg base CX0 1 f fd ["self", "place"] (spInit K f) := by
  refine F.ok scInit (fun vs H Q E h => ?_) (fun cdv A outer s H vs Q E hr h => ?_)
  · obtain ⟨a, C, nm, v, rfl, _⟩ := h
    rfl
  · obtain ⟨a, C, nm, v, rfl, T, ha, q⟩ := h
    refine ⟨_, pss_cons (ps_ost (pv 0) (pv 1)) (pss_one (ps_ost (pv 0) (pe_cname (pe_eclass (pv 0))))), ?_⟩
    refine ⟨_, rfl, _, rfl, a, C, rfl, T.oc, T.noP, .inl ⟨ha, fun dx ndx nda => ?_⟩⟩
    have e1 : (upd (upd H dx (exd dx [("place", v)])) a (exo a C (some dx))) dx = some (exd dx [("place", v)]) := by rw [upd_ne nda, upd_same]
    refine ⟨_, rfl, a, C, some dx, rfl, T.ec, upd_same, fun d e => ?_, C, nm, rfl, T.nc, _, rfl, a, C, rfl, T.oc, T.noN, .inr ⟨dx, _, upd_same, e1, (by show 1 ≤ 900; decide), q dx ndx nda⟩⟩
    cases e
    exact ⟨_, e1⟩
end
theorem same_err {H H3 : Hp} {e dx : Addr} {o1 o2 o3 o4 o5 : HO} (sm : Same H H3) (ne : H3 e = none) (nx : H3 dx = none) : Same H (upd (del (upd (upd (upd (upd H3 e o1) dx o2) e o3) dx o4) e) dx o5) := fun b o hb => by
  have y := sm b o hb
  have n1 : b ≠ e := ne_of_none y ne
  have n2 : b ≠ dx := ne_of_none y nx
  rw [upd_ne n2, del_ne n1, upd_ne n2, upd_ne n1, upd_ne n2, upd_ne n1]
  exact y
end K2

namespace L2
open PySem PySem.Spec PyProof.Rows
/-! comprehensions whose steps may raise -/
/-- behind the block: like compPost, but the error's case speaks of the block's own environment -/
def postX (M : Model) (A : Around) (E : Value → Shared → Prop) (use : Option (Value → Sem Unit)) (Q : Value → Shared → Prop) (acc : Value) (ce : Env) : Result → Shared → Prop
  | .error x, s' => ∃ m, s'.heap.Ns ce.locals m ∧ ∀ h', Heap.SameBut ce.locals s'.heap h' → wpAny M A (passOn "comprehension.variables-let-go" x ce : Sem Value) (fun _ _ => False) E { s' with heap := h' }
  | .ok f, s' => compPost M A E use Q acc ce.locals (.ok f) s'
theorem comp_raising {M : Model} {A : Around} {E : Value → Shared → Prop} {s : Shared} {env : Env} {e : Expr} {scope : Scope} {pos : Pos} {newAcc first : Sem Value} {g : Comprehension} {gs : List Comprehension} {cl : List (Str × Addr)} {use : Option (Value → Sem Unit)}
    {Q : Value → Shared → Prop} (hcl : clausesOf e = g :: gs) (hs : ∀ x, foldedSetIterable g.iter env x = pure x) (hclos : closureFor scope env = pure cl)
    (hkind : scope.kind = .function) (hnames : ∀ x ∈ scope.names, x.2 = .local → scope.names.lookup x.1 = some .local)
    (h : wpAny M A first (fun x s₁ => wpAny M A (pyIter x) (fun it s₂ => wpAny M A newAcc (fun acc s₃ =>
      wpAny M A (newFunctionEnv scope env.globals cl [] env.qual none .none (some env)) (fun c s₄ =>
        codeAny M A (.compStart e 0 it acc { c with scope := relabel scope env }) (postX M A E use Q acc { c with scope := relabel scope env }) s₄) E s₃) E s₂) E s₁) E s) :
    wpAny M A (comprehension e scope env pos newAcc false first use) Q E s := by
  unfold comprehension
  rw [hclos, hcl]
  have up : ∀ {α : Type} {t : Sem α} {P P' : α → Shared → Prop} {s : Shared}, wpAny M A t P E s → (∀ a s, P a s → P' a s) → wpAny M A t P' E s := fun z k => wpAny_mono z k fun _ _ y => y
  refine wpAny_bind (up h fun x s1 h1 => wpAny_bind (wpAny_standAt (wpAny_bind (wpAny_of_eq (hs x) (wpAny_bind (wpAny_holding (up h1 fun it s2 h2 => ?_)))))))
  refine wpAny_standIf (wpAny_bind (up h2 fun acc s3 h3 => wpAny_bind (wpAny_pure (wpAny_bind (up h3 fun c s4 h4 => ?_)))))
  dsimp only
  have loc : ∀ x ∈ scope.names, x.2 = .local → Env.kindOf { c with scope := relabel scope env } x.1 = some .local := fun x hx hl => lookup_relabel_local (hnames x hx hl)
  have own : ∀ x ∈ (scope.names.filter fun x => (x.2 == .local || x.2 == .cell) && x.1 != (".0" : Str)).reverse, x ∈ scope.names := fun x hx => (List.mem_filter.mp (List.mem_reverse.mp hx)).1
  refine wpAny_holding (wpAny_bind (wpAny_attempt (wpAny_holding (wpAny_run (codeAny_mono h4 fun r s' hr => ?_)))))
  cases r with
  | error x =>
    obtain ⟨m, hn, k⟩ := hr
    exact wpAny_bind (wpAny_holding (wpAny_comp_letGo (cenv := { c with scope := relabel scope env }) hkind _ s' m (fun x hx => loc x (own x hx)) hn fun h' m' _ sb => up (wpAny_mono (k h' sb) (fun _ _ z => z) fun _ _ y => y) fun _ _ z => z.elim))
  | ok f =>
    cases use with
    | none =>
      obtain ⟨m, hn, k⟩ := hr
      exact wpAny_bind (wpAny_holding (wpAny_comp_letGo (cenv := { c with scope := relabel scope env }) hkind _ s' m (fun x hx => loc x (own x hx)) hn fun h' m' _ sb => wpAny_pure (k h' sb)))
    | some u =>
      refine wpAny_bind (wpAny_rule (wpAny_bind (wpAny_holding (up hr fun _ s5 hr' => ?_))))
      obtain ⟨m, hn, k⟩ := hr'
      refine wpAny_bind (wpAny_comp_letGo (cenv := { c with scope := relabel scope env }) hkind _ s5 m (fun x hx => loc x (own x ?_)) hn fun h' m' _ sb => wpAny_pure (k h' sb))
      exact (List.mem_append.mp hx).elim List.mem_of_mem_drop List.mem_of_mem_take

/-- the context of a block whose steps may raise E -/
abbrev Cx.blkX (X : Cx) (s : Shared) (H : Hp) (scope : Scope) (ce : Env) (fp : List Addr) (E : XK) : Cx :=
  { X.blk s H scope ce fp with xe := fun u s' => ∃ pins σ H1 s1, Inv (X.blk s H scope ce fp) pins σ H1 s1 ∧ CX X.prog X.w X.stack H1 s1 E u s' }
theorem Inv.toXe {X : Cx} {xe : Value → Shared → Prop} {pins : List (Addr × Obj)} {σ : St} {H : Hp} {s : Shared} (I : Inv X pins σ H s) : Inv { X with xe := xe } pins σ H s :=
  ⟨⟨I.ok.mod, I.ok.kind, I.ok.glob, I.ok.blt, I.ok.above, I.ok.inj, I.ok.has, I.ok.cab, I.ok.hd, I.ok.frames, I.ok.stk, I.ok.exf, I.ok.bs, I.ok.bsz, I.ok.noex, I.ok.exfs, I.ok.funs, I.ok.frf⟩,
    I.os, I.bare, I.base, I.loc, I.cell, I.free, I.freeC, I.pin, I.hok, I.len⟩
theorem Inv.ofXe {X : Cx} {xe : Value → Shared → Prop} {pins : List (Addr × Obj)} {σ : St} {H : Hp} {s : Shared} (I : Inv { X with xe := xe } pins σ H s) : Inv X pins σ H s :=
  ⟨⟨I.ok.mod, I.ok.kind, I.ok.glob, I.ok.blt, I.ok.above, I.ok.inj, I.ok.has, I.ok.cab, I.ok.hd, I.ok.frames, I.ok.stk, I.ok.exf, I.ok.bs, I.ok.bsz, I.ok.noex, I.ok.exfs, I.ok.funs, I.ok.frf⟩,
    I.os, I.bare, I.base, I.loc, I.cell, I.free, I.freeC, I.pin, I.hok, I.len⟩
theorem pass_blk {X : Cx} {s : Shared} {H : Hp} {scope : Scope} {ce : Env} {fp : List Addr} {E : XK} (σ : St) : PassesAt (CX X.prog X.w) (X.blkX s H scope ce fp E) σ E := fun pins H1 s1 e s' I c => ⟨pins, σ, H1, s1, I.ofXe, c⟩

section
variable {X : Cx} {W : WX} {B : Heap} {a L C : Addr} {l : List Env} {Z : Obj → Prop}
/-- another object, dropped from the ground, may have changed -/
theorem funFrames_but {h h' B' : Heap} (hb : ∀ b, b ≠ C → h'.get? b = h.get? b) (hB : ∀ b o, B'.get? b = some o → B.get? b = some o) : ∀ {l : List Env}, h.FunFrames B l → C ∉ frs l → h'.FunFrames B' l
  | [], _, _ => trivial
  | env :: l, x, hn => by
    obtain ⟨hk, ⟨L, o, hf, nb, ho, hd⟩, hr⟩ := x
    have hL : L ∈ frs (env :: l) := List.mem_filterMap.mpr ⟨env, List.mem_cons_self, hf⟩
    refine ⟨hk, ⟨L, o, hf, ?_, (hb L fun e => hn (e ▸ hL)).trans ho, hd⟩, funFrames_but hb hB hr fun z => hn ?_⟩
    · cases q : B'.get? L with
      | none => rfl
      | some o' => have := hB _ _ q; rw [nb] at this; cases this
    · obtain ⟨e, he, q⟩ := List.mem_filterMap.mp z
      exact List.mem_filterMap.mpr ⟨e, List.mem_cons_of_mem _ he, q⟩
theorem held_but {h h' B' : Heap} {oC : Obj} (x : HandSPX.HeldZ B l a Z L h) (eC : h.get? C = some oC) (nf : ∀ vs, oC.data ≠ .fields vs) (hb : ∀ b, b ≠ C → h'.get? b = h.get? b) (hB : ∀ b o, B'.get? b = some o → B.get? b = some o) (hC : B'.get? C = none) (hl : C ∉ frs l) :
    HandSPX.HeldZ B' l a Z L h' := by
  obtain ⟨st, na, ff, oe, vs, T, oT, ts, he, hz, hd, h1, nT, hTe, hT, hdT, h3⟩ := x
  have neC : ∀ {b : Addr} {o : Obj} {vs}, h.get? b = some o → o.data = .fields vs → b ≠ C := fun {b o vs} e d z => by
    rw [z, eC] at e
    cases e
    exact nf _ d
  have none' : ∀ {b}, B.get? b = none → B'.get? b = none := fun {b} e => by
    cases q : B'.get? b with
    | none => rfl
    | some o' => have := hB _ _ q; rw [e] at this; cases this
  refine ⟨fun b o e => ?_, none' na, funFrames_but hb hB ff hl, oe, vs, T, oT, ts, (hb a (neC he hd)).trans he, hz, hd, h1, none' nT, hTe, (hb T (neC hT hdT)).trans hT, hdT, h3⟩
  have ne : b ≠ C := fun z => by rw [z, hC] at e; cases e
  exact (hb b ne).trans (st b o (hB b o e))

/-- in our air, noted by us: what XE says, with its third way only -/
def XH (X : Cx) (W : WX) (u : Value) (s' : Shared) : Prop :=
  ∃ (a : Addr) (B : Heap) (sI : Shared) (σ : St) (H : Hp) (cls : Value) (d : Option Addr),
    u = .ref a ∧ Inv X [] σ H sI ∧ (∀ b o, sI.heap.get? b = some o → b ∉ frs X.stack → B.get? b = some o) ∧ sI.heap.UpToSlots s'.heap ∧
      HandSPX.HeldZ B X.stack a (Zc cls d) X.env.locals s'.heap ∧ H a = none ∧ s'.os = sI.os ∧ AllBare s'.gens ∧ W cls d σ H
theorem XH.xe {u : Value} {s' : Shared} (x : XH X W u s') : XE X W u s' := by
  obtain ⟨a, B, sI, σ, H, cls, d, e, I, nb, up, hh, na, os, ag, w⟩ := x
  exact ⟨a, B, sI, [], σ, H, cls, d, e, I, nb, up, .inr (.inr hh), na, os, ag, w⟩
/-- noted -/
theorem XE.note {M : Model} {E₁ : Value → Shared → Prop} {u : Value} {s : Shared} {Q : Unit → Shared → Prop} (hs : X.stack = X.env :: X.outer) (hf : X.env.frame = some X.env.locals) (x : XE X W u s)
    (h : ∀ h', XH X W u { s with heap := h' } → s.heap.UpToSlots h' → Q () { s with heap := h' }) : wpAny M X.A (noteFrame u X.env) Q E₁ s := by
  obtain ⟨a, B, sI, pins, σ, H, cls, d, rfl, I, nb, up, sky, na, os, ag, w⟩ := x
  have hfr : X.A.frames = some (X.env :: X.outer) := by rw [I.ok.frames, hs]
  have I' : Inv X [] σ H sI := (show Inv X ([] ++ pins) σ H sI from I).unpinned
  have fin : ∀ h', HandSPX.HeldZ B X.stack a (Zc cls d) X.env.locals h' → s.heap.UpToSlots h' → Q () { s with heap := h' } := fun h' hh up' =>
    h h' ⟨a, B, sI, σ, H, cls, d, rfl, I', nb, up.trans up', hh, na, os, ag, w⟩ up'
  rw [hs] at sky fin
  rcases sky with ⟨hB, hn, hl, oe, vs, he, hz, hd, h1⟩ | fl | hh
  · exact HandSPX.look_newZ Zc.steady hfr hl hf he hB hn hd h1 hz fin
  · exact HandSPX.looks_onZ Zc.steady hfr hf fl fin
  · exact HandSPX.againZ hf hh.2.2.2 (fin s.heap hh (Heap.UpToSlots.refl _))
/-- a record of ours has changed -/
theorem XH.but {u : Value} {s : Shared} {h' : Heap} {m : Str → Option Value} (x : XH X W u s) (hn : s.heap.Ns C m) (sb : Heap.SameBut C s.heap h') (f : ∀ H' : Hp, H' C = none → FpOk X [] H' C) (nC : ∀ cls d σ H, W cls d σ H → H C = none) (nfr : C ∉ frs X.stack) : XH X W u { s with heap := h' } := by
  obtain ⟨a, B, sI, σ, H, cls, d, rfl, I, nb, up, hh, na, os, ag, w⟩ := x
  obtain ⟨oC, es, ep, eC, dC, _⟩ := hn
  have hCn : H C = none := nC _ _ _ _ w
  obtain ⟨f0, f1, f2, f3, f4, f5⟩ := f H hCn
  obtain ⟨G, g1, g2⟩ := restrict sI.heap fun b => decide (b ≠ C)
  obtain ⟨B', b1, b2⟩ := restrict B fun b => decide (b ≠ C)
  have gs : ∀ b o, G.get? b = some o → b ≠ C ∧ sI.heap.get? b = some o := fun b o e => by
    by_cases z : b = C
    · rw [g2 b (by simp [z])] at e; cases e
    · exact ⟨z, by rw [g1 b (by simp [z])] at e; exact e⟩
  have bs : ∀ b o, B'.get? b = some o → b ≠ C ∧ B.get? b = some o := fun b o e => by
    by_cases z : b = C
    · rw [b2 b (by simp [z])] at e; cases e
    · exact ⟨z, by rw [b1 b (by simp [z])] at e; exact e⟩
  have keepG : ∀ b o, b ≠ C → sI.heap.get? b = some o → G.get? b = some o := fun b o z e => by rw [g1 b (by simp [z])]; exact e
  refine ⟨a, B', { sI with heap := G }, σ, H, cls, d, rfl, ?_, fun b o e hb => ?_, fun b o e hnf => ?_, held_but hh eC (fun vs z => by rw [dC] at z; cases z) sb.2 (fun b o e => (bs b o e).2) (b2 C (by simp)) nfr, na, os, ag, w⟩
  · refine I.call (g' := sI.gens) (t' := sI.toks) (d' := sI.drawn) (ch := [C]) ⟨fun b o e _ _ hc => keepG b o (by simpa using hc) e, fun b o e _ _ hc => ⟨o.slots, keepG b o (by simpa using hc) e⟩, fun b o e n _ => n, fun b o e hc => ⟨o, keepG b o (by simpa using hc) e⟩, fun _ _ e => e, fun _ _ _ e => e, fun b ps e => ⟨#[], by rw [e]; simp⟩⟩
      (fun b o q => (I.hok b o q).stay (fun c u hc r => keepG c u (fun z => ?_) r) (fun _ r => r) fun _ _ r => r) I.bare fun b hb => ?_
    · rcases hc with hc | hc
      · rw [hc] at z; rw [z, hCn] at q; cases q
      · rw [z, hCn] at hc; cases hc
    · have e : b = C := by simpa using hb
      subst e
      exact ⟨f3, f1, f4, f5⟩
  · obtain ⟨z, e'⟩ := gs b o e
    rw [b1 b (by simp [z])]
    exact nb b o e' hb
  · obtain ⟨z, e'⟩ := gs b o e
    obtain ⟨sl, q⟩ := up b o e' hnf
    exact ⟨sl, (sb.2 b z).trans q⟩
/-- on, from the block -/
theorem XH.passOn {M : Model} {what : String} {α : Type} {ce : Env} {u : Value} {s : Shared} (tk : Takes X W) (hc : ce.frame = some X.env.locals) (x : XH X W u s) : wpAny M X.A (PySem.passOn what u ce : Sem α) (fun _ _ => False) X.xe s := by
  obtain ⟨a, B, sI, σ, H, cls, d, rfl, I, nb, up, hh, na, os, ag, w⟩ := x
  obtain ⟨st, na', ff, oe, vs, T, oT, ts, he, hz, hd, h1, nT, hTe, hT, hdT, h3⟩ := id hh
  unfold PySem.passOn
  refine wpAny_bind (wpAny_field he hd h1 ?_)
  rw [if_neg (show ¬ ((Value.ref T == Value.none) = true) from by simp), hc]
  refine wpAny_bind (HandSPX.setFlight_onZ hh fun h' hh' up' => wpAny_throw ?_)
  exact tk _ _ (XH.xe ⟨a, B, sI, σ, H, cls, d, rfl, I, nb, up.trans up', hh', na, os, ag, w⟩)

/-! ### the loop of a block -/
theorem loopX {Y : Cx} {elt tg iter : Expr} {ifs : List Expr} {scope : Scope} {pos : Pos} {J : It} {it D : Addr} {fp : List Addr} {tn : Nat → Heap → Prop} {σ₀ : St} {vs : List Nat} {g : TG} {tt : TT} {te : TE} {Qd : Hp → Prop} {R : Result → Shared → Prop}
    (T : Turn Y.prog Y.w Y.K tg J fp it tn) (hc : Y.calm = true) (pg : PG Y tg g) (pt : PTs Y ifs tt) (pe : PE Y elt te)
    (ok : ∀ s H σ, Inv Y [] σ H s → (∀ b ∈ fp, H b = none) → ∀ b ∈ fp, FpOk Y [] H b) {W : Nat → Nat → Hp → Prop}
    (turn : ∀ i m H, W i m H → (J.stop i H ∧ Qd H) ∨ (J.go i H ∧ ∃ Nx : Hp → Prop, (∀ H', Nx H' → ∃ m', m' < m ∧ W (i + 1) m' H') ∧ ∀ x H', J.yld i H x H' → g x σ₀ H' fun σ2 H2 => wipe σ2 vs = σ₀ ∧ tt σ2 H2 fun b H3 =>
      if b = true then te σ2 H3 fun y H4 => ∃ acc, H4 D = some (.lst acc) ∧ acc.length < sizeLine ∧ Nx (upd H4 D (.lst (acc ++ [y]))) else Nx H3))
    (stop : ∀ s H, Inv Y [] σ₀ H s → Qd H → R (.ok .next) s) (err : ∀ u s', Y.xe u s' → notedBy (model Y.prog Y.w) Y.A Y.env (fun e s2 => R (.error e) s2) u s')
    {m0 : Nat} {s0 : Shared} {H0 : Hp} (w0 : W 0 m0 H0) (I0 : Inv Y [] σ₀ H0 s0) (t0 : tn 0 s0.heap) (n0 : ∀ b ∈ fp, H0 b = none) :
    codeAny (model Y.prog Y.w) Y.A (.compLoop (.ListComp elt [⟨tg, iter, ifs, 0⟩] scope pos) 0 (.ref it) (.ref D) Y.env) R s0 := by
  let At : Nat → Shared → Prop := fun n s => ∃ i H, W i n H ∧ Inv Y [] σ₀ H s ∧ tn i s.heap ∧ ∀ b ∈ fp, H b = none
  have on : ∀ {α : Type} {t : Sem α} {P P' : α → Shared → Prop} {s : Shared}, wpAny (model Y.prog Y.w) Y.A t P Y.xe s → (∀ a s, P a s → P' a s) →
      wpAny (model Y.prog Y.w) Y.A t P' (notedBy (model Y.prog Y.w) Y.A Y.env fun e s2 => R (.error e) s2) s := fun z k => wpAny_mono z k err
  refine compLoop_any At (fun n s => ?_) m0 ⟨0, H0, w0, I0, t0, n0⟩
  rintro ⟨i, H, w, I, t, nn⟩
  rcases turn i n H w with ⟨st, qd⟩ | ⟨go, Nx, back, step⟩
  · refine on (T.done Y rfl rfl rfl hc i [] s σ₀ H Y.xe I (ok s H σ₀ I nn) t st) ?_
    rintro r s2 ⟨rfl, I2⟩
    exact stop s2 H I2 qd
  · refine on (T.item Y rfl rfl rfl hc i [] s σ₀ H Y.xe I (ok s H σ₀ I nn) t go) ?_
    rintro r s1 ⟨u, rfl, h1⟩
    refine on h1 ?_
    rintro _ s2 ⟨x, H2, I2, rx, y2, t2, n2⟩
    have J2 := I2.pinned (ok s2 H2 σ₀ I2 n2) (T.obj _ _ t2)
    have again : ∀ {s' : Shared} {σ' : St} {H' : Hp}, Inv Y ([] ++ pinsAt fp s2.heap) σ' H' s' → wipe σ' vs = σ₀ → Nx H' → ∃ m, m < n ∧ At m s' := fun {s' σ' H'} I' hw nx => by
      obtain ⟨m', lt, w'⟩ := back H' nx
      have held : ∀ b ∈ fp, ∀ o, s2.heap.get? b = some o → s'.heap.get? b = some o ∧ H' b = none := fun b hb o e =>
        have z := I'.pin (b, o) (List.mem_append_right _ (List.mem_append_right _ (mem_pinsAt hb e)))
        ⟨z.1, z.2.1⟩
      have len : σ₀.length = σ'.length := by rw [← hw, wipe_length]
      refine ⟨m', lt, i + 1, H', w', (I'.unpinned (pins := [])).weak len (fun j v e => ?_), T.keep _ _ _ t2 fun b hb o e => (held b hb o e).1, fun b hb => ?_⟩
      · rw [← hw] at e
        exact (wipe_some e).1
      · obtain ⟨o, e, _⟩ := T.obj _ _ t2 b hb
        exact (held b hb o e).2
    refine on (pg.run _ s2 σ₀ H2 x u _ J2 rx (step x H2 y2)) ?_
    rintro _ s3 ⟨σ3, H3, I3, hw, q3⟩
    refine on (pt.run _ s3 σ3 H3 _ I3 q3) ?_
    rintro b s4 ⟨H4, I4, q4⟩
    cases b with
    | false => exact again I4 hw q4
    | true =>
      refine on (pe.run _ s4 σ3 H4 _ I4 q4) ?_
      rintro z s5 ⟨yv, H5, I5, r5, acc, hD, hz, nx⟩
      exact app_ok (X := Y) I5 hD hz r5 fun s6 I6 => again I6 hw nx

/-- what is raised in the block leaves it -/
theorem out_of_block {X : Cx} {W : WX} {E : XK} {pins : List (Addr × Obj)} {σ : St} {H : Hp} {s : Shared} {scope : Scope} {cl : List (Str × Addr)} {fp : List Addr} {use : Option (Value → Sem Unit)} {Qf : Value → Shared → Prop} {D : Addr}
    (hst : X.stack = X.env :: X.outer) (hf : X.env.frame = some X.env.locals) (tk : Takes X W) (hE : ∀ cls d H', E cls d H' → W cls d σ H') (I : Inv X pins σ H s) (hfp : ∀ b ∈ fp, FpOk X pins H b) {u : Value} {s' : Shared}
    (x : (X.blkX s H scope (compEnvC scope cl s.heap.objs.size X.env) fp E).xe u s') :
    notedBy (model X.prog X.w) X.A (compEnvC scope cl s.heap.objs.size X.env) (fun e s2 => postX (model X.prog X.w) X.A X.xe use Qf (.ref D) (compEnvC scope cl s.heap.objs.size X.env) (.error e) s2) u s' := by
  obtain ⟨pins1, σ1, H1, s1, I1, c⟩ := x
  have J : Inv X pins σ H1 s1 := I.call' (ch := fp) I1.os I1.base I1.hok I1.bare fun b hb => ⟨(hfp b hb).2.2.2.1, (hfp b hb).2.1, (hfp b hb).2.2.2.2.1, (hfp b hb).2.2.2.2.2⟩
  have nC : H1 s.heap.objs.size = none := I1.free
  have fC := fun (H' : Hp) (n : H' s.heap.objs.size = none) => (show Inv X ([] ++ pins) σ H s from I).unpinned.fpOk (Nat.le_refl _) n
  have nfr : s.heap.objs.size ∉ frs X.stack := by
    rw [hst]
    intro z
    unfold frs at z
    rw [List.filterMap_cons, hf] at z
    rcases List.mem_cons.mp z with z | z
    · exact (fC H1 nC).2.1 z
    · exact (fC H1 nC).2.2.1 z
  obtain ⟨m, hn, _⟩ := I1.loc
  have hn : s1.heap.Ns s.heap.objs.size m := hn
  obtain ⟨a, B, H2, cls, d, rfl, fl, hok, ub, na, os, ag, he⟩ := c
  have hn' : s'.heap.Ns s.heap.objs.size m := by
    obtain ⟨o, es, ep, e, r⟩ := hn
    exact ⟨o, es, ep, fl.1 _ _ (ub.keep _ _ e nC nfr), r⟩
  have n2 : H2 s.heap.objs.size = none := by
    obtain ⟨o, es, ep, e, r⟩ := hn
    exact ub.free _ _ e nC
  have xx : XE X (fun cls d σ H => W cls d σ H ∧ H s.heap.objs.size = none) (.ref a) s' := XE.of_call (E := fun cls d H' => E cls d H' ∧ H' s.heap.objs.size = none) J (fun cls d H' h => ⟨hE cls d H' h.1, h.2⟩) ⟨a, B, H2, cls, d, rfl, fl, hok, ub, na, os, ag, he, n2⟩
  show wpAny _ X.A (noteFrame (.ref a) X.env) _ _ _
  refine xx.note hst hf fun h' xh up => ⟨m, up.ns hn', fun h2 sb => ?_⟩
  exact XH.passOn (tk.imp fun _ _ _ _ z => z.1) hf (XH.but xh (up.ns hn') sb fC (fun _ _ _ _ z => z.2) nfr)

/-- [elt for target in iter if ..] whose steps may raise what is wished for at the caller's slots -/
theorem lcX_core {X : Cx} {W : WX} {E : XK} {pins : List (Addr × Obj)} {s : Shared} {σ : St} {H : Hp} {Q : VK} {elt tg iter : Expr} {ifs : List Expr} {scope : Scope} {own : List (Str × Nat)} {pos pos' : Pos} {wi : TI} {g : TG} {tt : TT} {te : TE} {use : Option (Value → Sem Unit)}
    {Qf : Value → Shared → Prop} (hst : X.stack = X.env :: X.outer) (hf : X.env.frame = some X.env.locals) (tk : Takes X W) (hE : ∀ cls d H', E cls d H' → W cls d σ H')
    (hc : X.calm = true) (hN : X.N.Nodup) (I : Inv X pins σ H s) (hi : PI X tg iter wi) (ok : BlkOk X.N X.env.scope scope own)
    (hg : ∀ (s : Shared) (H : Hp) (C : Addr) (cl : List (Str × Addr)) (fp : List Addr), PG (X.blkX s H scope (compEnvC scope cl C X.env) fp E) tg g) (ht : ∀ (s : Shared) (H : Hp) (C : Addr) (cl : List (Str × Addr)) (fp : List Addr), PTs (X.blkX s H scope (compEnvC scope cl C X.env) fp E) ifs tt)
    (he : ∀ (s : Shared) (H : Hp) (C : Addr) (cl : List (Str × Addr)) (fp : List Addr), PE (X.blkX s H scope (compEnvC scope cl C X.env) fp E) elt te) (hs : ∀ x, foldedSetIterable iter X.env x = pure x)
    (h : tLc wi g tt te (own.map (·.2)) σ H Q)
    (hRR : ∀ D C s' m H', Inv X pins σ H' s' → Q (.ref D) H' → s'.heap.Ns C m → FpOk X pins H' C → compPost (model X.prog X.w) X.A X.xe use Qf (.ref D) C (.ok .next) s') :
    wpAny (model X.prog X.w) X.A (comprehension (.ListComp elt [⟨tg, iter, ifs, 0⟩] scope pos) scope X.env pos' (newList []) false (eval iter X.env) use) Qf X.xe s := by
  have cells : ∀ y ∈ scope.names, y.2 = .free → ∃ c, X.env.cells.lookup y.1 = some c := fun y hy e => I.ok.has _ (by
    rcases ok.free y hy e with k | k
    · exact .inl k
    · exact .inr k)
  have up : ∀ {α : Type} {t : Sem α} {P P' : α → Shared → Prop} {s : Shared}, wpAny (model X.prog X.w) X.A t P X.xe s → (∀ a s, P a s → P' a s) → wpAny (model X.prog X.w) X.A t P' X.xe s := fun z k => wpAny_mono z k fun _ _ y => y
  refine comp_raising (use := use) rfl hs (closure_ok cells) ok.kind (fun y hy e => by rw [ok.uniq y hy, e]) (up (hi.run pins s σ H _ I h) fun xv s1 h1 => up h1 fun itv s2 h2 => ?_)
  obtain ⟨it, fp, tn, J, H2, rfl, I2, T, t2, f2, q⟩ := h2
  obtain ⟨D, hD⟩ : ∃ D, D = s2.heap.objs.size := ⟨_, rfl⟩
  have small : ∀ b ∈ fp, b < s2.heap.objs.size := fun b hb =>
    have ⟨o, e, _⟩ := T.obj _ _ t2 b hb
    Heap.lt_size e
  refine wpAny_newObj_type (newEnv_comp ?_) (by show 0 ≤ sizeLine; decide)
  obtain ⟨s3, e3⟩ : ∃ s3 : Shared, s3 = { s2 with heap := s2.heap.push { cls := .type "list", data := .seq ([] : List Value).toArray } } := ⟨_, rfl⟩
  rw [← e3, ← hD]
  have hh3 : s3.heap = s2.heap.push { cls := .type "list", data := .seq ([] : List Value).toArray } := by rw [e3]
  have keep3 : ∀ b o, s2.heap.get? b = some o → s3.heap.get? b = some o := fun b o e => by rw [hh3]; exact Heap.get?_push_of_some _ e
  have I3 : Inv X pins σ (upd H2 D (.lst [])) s3 := by
    have z := I2.laid (a := D) (o := .lst []) (t' := s2.toks) (h' := s3.heap) keep3 (Nat.le_of_eq hD.symm) ⟨Nat.zero_le _, [], 0, .nil, by rw [hh3, hD]; exact Heap.get?_push_size _ rfl⟩
    rw [e3] at z ⊢
    exact z
  obtain ⟨W0, ⟨m0, w0⟩, turn⟩ := q D (I2.hok.fresh (Nat.le_of_eq hD.symm))
  have f3 : ∀ b ∈ fp, FpOk X pins (upd H2 D (.lst [])) b ∧ b < s3.heap.objs.size := fun b hb => by
    have lt := small b hb
    refine ⟨⟨?_, (f2 b hb).2⟩, by rw [hh3, Heap.size_push]; exact Nat.lt_succ_of_lt lt⟩
    rw [upd_ne (by rw [hD]; exact Nat.ne_of_lt lt)]
    exact (f2 b hb).1
  have I4 := (block_start I3 ok hN f3).toXe (xe := fun u s' => ∃ pins σ H1 s1, Inv (X.blk s3 (upd H2 D (.lst [])) scope (compEnvC scope (cellsFrom (s3.heap.objs.size + 1) scope.names (cloFrom X.env.cells scope.names [])) s3.heap.objs.size X.env) fp) pins σ H1 s1 ∧ CX X.prog X.w X.stack H1 s1 E u s')
  have keep4 : ∀ b o, s3.heap.get? b = some o → (pushCells (s3.heap.push { cls := .type "dict", data := .dict #[] }) scope.names).get? b = some o := fun b o e => pushCells_keeps _ _ _ _ (Heap.get?_push_of_some _ e)
  have t4 : tn 0 (pushCells (s3.heap.push { cls := .type "dict", data := .dict #[] }) scope.names) := T.keep _ _ _ t2 fun b _ o e => keep4 _ _ (keep3 _ _ e)
  show codeAny _ _ (.compStart (.ListComp elt [⟨tg, iter, ifs, 0⟩] scope pos) 0 (.ref it) (.ref D) (compEnvC scope (cellsFrom (s3.heap.objs.size + 1) scope.names (cloFrom X.env.cells scope.names [])) s3.heap.objs.size X.env))
    (postX (model X.prog X.w) X.A X.xe use Qf (.ref D) (compEnvC scope (cellsFrom (s3.heap.objs.size + 1) scope.names (cloFrom X.env.cells scope.names [])) s3.heap.objs.size X.env)) { s3 with heap := pushCells (s3.heap.push { cls := .type "dict", data := .dict #[] }) scope.names }
  have loop := loopX (D := D) (scope := scope) (pos := pos) (iter := iter) (Y := X.blkX s3 (upd H2 D (.lst [])) scope (compEnvC scope (cellsFrom (s3.heap.objs.size + 1) scope.names (cloFrom X.env.cells scope.names [])) s3.heap.objs.size X.env) fp E)
    (R := postX (model X.prog X.w) X.A X.xe use Qf (.ref D) (compEnvC scope (cellsFrom (s3.heap.objs.size + 1) scope.names (cloFrom X.env.cells scope.names [])) s3.heap.objs.size X.env))
    T hc (hg _ _ _ _ _) (ht _ _ _ _ _) (he _ _ _ _ _)
    (fun s' H' σ' I' nn b hb => ⟨nn b hb, (I'.ok.exf b hb).1, I'.ok.exfs b hb, .inl hb, fun x c e => (I'.ok.exf b hb).2 x c e, fun p hp => absurd (show p ∈ ([] : List (Addr × Obj)) ++ [] from hp) (by simp)⟩)
    turn (fun s' H' I' qd => ?_) (fun u s' x => out_of_block hst hf tk hE I3 (fun b hb => (f3 b hb).1) x) w0 I4 t4 (fun b hb => (f3 b hb).1.1)
  · exact codeAny_compStart_list loop (T.self X.A 0 _ _ _ t4 loop)
  · have J : Inv X pins σ H' s' := I3.call' (ch := fp) I'.os I'.base I'.hok I'.bare fun b hb => ⟨(f3 b hb).1.2.2.2.1, (f3 b hb).1.2.1, (f3 b hb).1.2.2.2.2.1, (f3 b hb).1.2.2.2.2.2⟩
    obtain ⟨m, hn, _⟩ := I'.loc
    exact hRR D _ s' m H' J qd hn (I3.fpOk (Nat.le_refl _) I'.free)

/-- as a value; E tells what a step may raise, at the slots σ -/
def tLcX (wi : TI) (g : TG) (tt : TT) (te : XK → TE) (W : WX) (vs : List Nat) : TE := fun σ H Q => tLc wi g tt (te (WE W σ)) vs σ H Q
section
variable {X : Cx} {W : WX} {elt tg iter : Expr} {ifs : List Expr} {scope : Scope} {own : List (Str × Nat)} {pos : Pos} {wi : TI} {g : TG} {tt : TT} {te : XK → TE}
theorem pe_lcX (hst : X.stack = X.env :: X.outer) (hf : X.env.frame = some X.env.locals) (tk : Takes X W) (hc : X.calm = true) (hN : X.N.Nodup) (hi : PI X tg iter wi) (ok : BlkOk X.N X.env.scope scope own)
    (hg : ∀ (E : XK) (s : Shared) (H : Hp) (C : Addr) (cl : List (Str × Addr)) (fp : List Addr), PG (X.blkX s H scope (compEnvC scope cl C X.env) fp E) tg g) (ht : ∀ (E : XK) (s : Shared) (H : Hp) (C : Addr) (cl : List (Str × Addr)) (fp : List Addr), PTs (X.blkX s H scope (compEnvC scope cl C X.env) fp E) ifs tt)
    (he : ∀ (E : XK) (s : Shared) (H : Hp) (C : Addr) (cl : List (Str × Addr)) (fp : List Addr), PE (X.blkX s H scope (compEnvC scope cl C X.env) fp E) elt (te E)) (hs : ∀ x, foldedSetIterable iter X.env x = pure x := by intro _; rfl) :
    PE X (.ListComp elt [⟨tg, iter, ifs, 0⟩] scope pos) (tLcX wi g tt te W (own.map (·.2))) := by
  refine ⟨fun pins s σ H Q I h => ?_⟩
  rw [eval_ListComp]
  refine lcX_core hst hf tk (E := WE W σ) (fun _ _ _ z => z) hc hN I hi ok (hg _) (ht _) (he _) hs h fun D C s' m H' I' q hn f => ⟨m, hn, fun h2 sb => ?_⟩
  obtain ⟨f0, f1, f2, f3, f4, f5⟩ := f
  exact ⟨.ref D, H', I'.turned (t' := s'.toks) (fun b o hb e => (sb.2 b hb).trans e) f0 f1 f3 f4 f5, rfl, q⟩
/-- name = [..] on one line, the name a local -/
theorem ps_setLcX {i : Nat} {y : Str} {py spos : Pos} (hst : X.stack = X.env :: X.outer) (hf : X.env.frame = some X.env.locals) (tk : Takes X W) (hc : X.calm = true) (hN : X.N.Nodup) (hy : X.N[i]? = some y) (hyl : X.env.scope.names.lookup y = some .local)
    (hsw : swapsWith (.ListComp elt [⟨tg, iter, ifs, 0⟩] scope pos) (some (.Name y py)) spos.line X.env = pure true) (hi : PI X tg iter wi) (ok : BlkOk X.N X.env.scope scope own)
    (hg : ∀ (E : XK) (s : Shared) (H : Hp) (C : Addr) (cl : List (Str × Addr)) (fp : List Addr), PG (X.blkX s H scope (compEnvC scope cl C X.env) fp E) tg g) (ht : ∀ (E : XK) (s : Shared) (H : Hp) (C : Addr) (cl : List (Str × Addr)) (fp : List Addr), PTs (X.blkX s H scope (compEnvC scope cl C X.env) fp E) ifs tt)
    (he : ∀ (E : XK) (s : Shared) (H : Hp) (C : Addr) (cl : List (Str × Addr)) (fp : List Addr), PE (X.blkX s H scope (compEnvC scope cl C X.env) fp E) elt (te E)) (hs : ∀ x, foldedSetIterable iter X.env x = pure x := by intro _; rfl) :
    PS X (.Assign [.Name y py] (.ListComp elt [⟨tg, iter, ifs, 0⟩] scope pos) spos) (tAsg (tLcX wi g tt te W (own.map (·.2))) (gName i)) := by
  refine ⟨fun pins s σ H D I h => ?_⟩
  rw [exec_Assign_Name_used _ _ _ _ hsw]
  refine wpAny_bind (wpAny_standAt (wpAny_bind ?_))
  show wpAny _ X.A (do let _ ← comprehension (.ListComp elt [⟨tg, iter, ifs, 0⟩] scope pos) scope X.env (firstIterPos [⟨tg, iter, ifs, 0⟩] pos) (newList []) false (eval iter X.env) (some (assign (.Name y py) X.env))) _ _ s
  have h' : tLc wi g tt (te (WE W σ)) (own.map (·.2)) σ H (fun x H1 => gName i x σ H1 D.nx) := h
  refine wpAny_bind (wpAny_mono (lcX_core (Qf := fun _ s' => SP X pins D .next s') hst hf tk (E := WE W σ) (fun _ _ _ z => z) hc hN I hi ok (hg _) (ht _) (he _) hs h' fun L C s' m H' I' q hn f => ?_) (fun _ s' hq => wpAny_pure (wpAny_pure hq)) fun _ _ z => z)
  obtain ⟨f0, f1, f2, f3, f4, f5⟩ := f
  refine wpAny_assign_Name (store_ok2 (v := V.ref L) I' hN hy (.inl hyl) rfl (fun s2 I2 ⟨a, sb, ha⟩ => ?_) (.inr hyl))
  have ne : C ≠ a := by
    rcases ha with z | z
    · exact fun e => f1 (e.trans z)
    · exact fun e => f4 y a z e.symm
  exact ⟨m, hn.sameBut sb ne, fun h3 sb3 => ⟨_, H', I2.turned (t' := s2.toks) (fun b o hb e => (sb3.2 b hb).trans e) f0 f1 f3 f4 f5, q⟩⟩
end
end
end L2

namespace K2
open PySem L2
def erN (t : Bool) : Str := if t then "Truncated" else "Damaged"
def erD (t : Bool) (i : Nat) : HO := .xd [("name", .str (erN t)), ("place", .int (i : Int))]
/-- the two classes of faults -/
structure EF (P : Program) (w : World) (K : PySem.W.Frag) (mg : Str → Option Value) (base : Heap) (CT CD : Addr) where
  (fE : Addr)
  (dE : FuncData)
  T : ErrC K CT fE "Truncated"
  D : ErrC K CD fE "Damaged"
  gT : mg "Truncated" = some (.ref CT)
  gD : mg "Damaged" = some (.ref CD)
  GE : FnOk P w K mg base CX0 1 fE dE ["self", "place"] (spInit K fE)
  bE : Binds K dE ["self", "place"] []
/-- what is due to a reader at r -/
structure Pst {α : Type} (CO CT CD : Addr) (H : Hp) (r lo : Addr) (os : List Int) (x : Re α) (R : Hp → V → α → Prop) (Q : VK) (E : XK) : Prop where
  ok : ∀ a m, x = .ok (a, m) → ∀ H' v, Ex H H' r → RdAt CO H' r lo os m → R H' v a → Q v H'
  no : ∀ t i, x = .error (t, i) → ∀ H' d, Ex H H' r → H' d = some (erD t i) → E (.ref (if t then CT else CD)) (some d) H'
section
variable {α β : Type} {CO CT CD : Addr} {H H' : Hp} {r lo : Addr} {os : List Int} {x : Re α} {f : α → Nat → Re β} {R : Hp → V → β → Prop} {Q : VK} {E : XK}
theorem Pst.next (h : Pst CO CT CD H r lo os (bd x f) R Q E) {a : α} {m : Nat} (e : x = .ok (a, m)) (ex : Ex H H' r) : Pst CO CT CD H' r lo os (f a m) R Q E := by
  rw [bd_ok e] at h
  exact ⟨fun a m e H2 v x2 => h.ok a m e H2 v (ex.trans x2), fun t i e H2 d x2 => h.no t i e H2 d (ex.trans x2)⟩
theorem Pst.bad (h : Pst CO CT CD H r lo os (bd x f) R Q E) {t : Bool} {i : Nat} (e : x = .error (t, i)) {H' : Hp} {d : Addr} (ex : Ex H H' r) (hd : H' d = some (erD t i)) : E (.ref (if t then CT else CD)) (some d) H' := h.no t i (bd_err e) H' d ex hd
theorem Pst.mv {x : Re β} (h : Pst CO CT CD H r lo os x R Q E) (ex : Ex H H' r) : Pst CO CT CD H' r lo os x R Q E :=
  ⟨fun a m e H2 v x2 => h.ok a m e H2 v (ex.trans x2), fun t i e H2 d x2 => h.no t i e H2 d (ex.trans x2)⟩
end
def RInt : Hp → V → Int → Prop := fun _ v a => v = .int a
/-- a reader's spec -/
def spP {α : Type} (CO CT CD : Addr) (R : Hp → V → α → Prop) (p : List Int → Nat → Re α) : Sp := fun vs H Q E => ∃ (r lo : Addr) (os : List Int) (n : Nat), vs = [.ref r] ∧ RdAt CO H r lo os n ∧ Os os ∧ Pst CO CT CD H r lo os (p os n) R Q E
theorem err_ex {H H3 : Hp} {r e dx : Addr} {o1 o2 o3 o4 o5 : HO} (sm : Ex H H3 r) (ne : H3 e = none) (nx : H3 dx = none) : Ex H (upd (del (upd (upd (upd (upd H3 e o1) dx o2) e o3) dx o4) e) dx o5) r := fun b o hb n => by
  have y := sm b o hb n
  have n1 : b ≠ e := ne_of_none y ne
  have n2 : b ≠ dx := ne_of_none y nx
  rw [upd_ne n2, del_ne n1, upd_ne n2, upd_ne n1, upd_ne n2, upd_ne n1]
  exact y
section
variable {P : Program} {w : World} {K : PySem.W.Frag} {mg : Str → Option Value} {base : Heap}
def RLst : Hp → V → List Int → Prop := fun H v a => ∃ p, v = .ref p ∧ H p = some (.lst (a.map V.int))
def spNX (CO CT CD : Addr) : Sp := fun vs H Q E => ∃ (r lo : Addr) (os : List Int) (n k : Nat), vs = [.ref r, .int (k : Int)] ∧ RdAt CO H r lo os n ∧ Pst CO CT CD H r lo os (tk k os n) RLst Q E
theorem ok_nx {f fI CO CT CD : Addr} {fd : FuncData} (F : Fun K "next_octets" "OctetReader.next_octets" sOctetReaderNextOctets f fd) (N : Nm mg) (T : KC K CO fI ORf) (Z : EF P w K mg base CT CD) : FnOk P w K mg base (L2.CX P w) 3 f fd ["self", "count"] (spNX CO CT CD) := by
  refine F.okX scNO (fun vs H Q E h => ?_) (fun cdv A outer s H vs Q E hr h => ?_)
  · obtain ⟨r, lo, os, n, k, rfl, _⟩ := h
    rfl
  · obtain ⟨r, lo, os, n, k, rfl, hr', q⟩ := h
    have hr1 := hr.mono (j := 2) (by decide)
    have GE := Z.GE
    refine ⟨_, pss_cons (ps_if (pt_cmpR op_gt (pv 1) (pe_op op_sub (pe_callB call_len_seq (by rfl) N.len PySem.boot_len (pa_cons (pe_fld (pv 0) rfl) pa_nil)) (pe_fld (pv 0) rfl)) (nomark _))
        (pss_one (ps_raise rfl (takes_of rfl rfl rfl rfl) (pmk_oex Z.T.oc Z.T.iC Z.T.tI GE hr1 Z.bE .nil pass0 (by rfl) Z.gT (pa_cons (pe_callB call_len_seq (by rfl) N.len PySem.boot_len (pa_cons (pe_fld (pv 0) rfl) pa_nil)) pa_nil)))) pss_nil)
      (pss_cons (ps_set (i := 2) scNO.nd rfl (.inl rfl) (pe_slice sl_list (pe_fld (pv 0) rfl) (po_some (pe_fld (pv 0) rfl)) (po_some (pe_op op_add (pe_fld (pv 0) rfl) (pv 1)))))
      (pss_cons (ps_fldaug (pv 0) (pv 1) in_add)
      (pss_one (ps_ret (pv 2))))), ?_⟩
    obtain ⟨dx, e⟩ := hr'.i
    have hle := hr'.le
    refine ⟨_, rfl, _, rfl, r, CO, dx, _, .ref lo, rfl, e, T.cl, T.na _ (by decide +kernel), rfl, lo, _, rfl, .inl (.inl (.inl hr'.o)), _, rfl, r, CO, dx, _, .int (n : Int), rfl, e, T.cl, T.na _ (by decide +kernel), rfl, _, _, rfl, rfl, _, _, rfl, rfl, _, rfl, ?_⟩
    rw [List.length_map]
    by_cases hk : n + k ≤ os.length
    · refine iteBF (decide_eq_false (by omega)) ?_
      have et : tk k os n = .ok ((os.drop n).take k, n + k) := by unfold tk; rw [if_pos hk]
      refine ⟨_, rfl, r, CO, dx, _, .ref lo, rfl, e, T.cl, T.na _ (by decide +kernel), rfl, _, rfl, r, CO, dx, _, .int (n : Int), rfl, e, T.cl, T.na _ (by decide +kernel), rfl, _, rfl, _, rfl, r, CO, dx, _, .int (n : Int), rfl, e, T.cl, T.na _ (by decide +kernel), rfl, _, rfl, _, _, rfl, rfl, _, rfl, lo, _, rfl, .inl (.inl hr'.o), fun p np => ?_⟩
      have nrp : r ≠ p := ne_of_none e np
      refine ⟨_, rfl, r, CO, dx, _, .int (n : Int), rfl, same_new np _ _ e, T.cl, T.na _ (by decide +kernel), rfl, _, rfl, _, _, rfl, rfl, dx, _, same_new np _ _ e, (by show 2 < 1000; decide), ?_⟩
      refine ⟨_, rfl, q.ok _ _ et _ _ (fun a o h m => ?_) ⟨⟨dx, ?_⟩, ?_, hk⟩ ⟨p, rfl, ?_⟩⟩
      · rw [upd_ne m]
        exact same_new np _ _ h
      · rw [upd_same, show ((n + k : Nat) : Int) = (n : Int) + (k : Int) from by omega]
        rfl
      · rw [upd_ne (ne_of hr'.o e (by intro z; cases z))]
        exact same_new np _ _ hr'.o
      · rw [upd_ne nrp.symm, upd_same, cutab, ← List.map_drop, ← List.map_take]
    · refine iteB (decide_eq_true (by omega)) ?_
      have et : tk k os n = .error (true, os.length) := by unfold tk; rw [if_neg hk]
      refine ⟨_, rfl, r, CO, dx, _, .ref lo, rfl, e, T.cl, T.na _ (by decide +kernel), rfl, lo, _, rfl, .inl (.inl (.inl hr'.o)), (by show 1 ≤ 1000; decide), fun e0 ne => ⟨e0, CT, "Truncated", _, rfl, Z.T, upd_same, fun dy ndx nde => ⟨rfl, dy, [("name", .str "Truncated"), ("place", .int ((os.map V.int).length : Int))], ?_, upd_same, ?_, ?_⟩⟩⟩
      · rw [upd_ne nde.symm, upd_same]
      · rw [upd_ne nde] at ndx
        exact ndx
      · rw [upd_ne nde] at ndx
        exact q.no _ _ et _ dy (err_ex (Same.ex (Same.refl H)) ne ndx) (by rw [upd_same, List.length_map]; rfl)

/-- a slot's value is an int of a list of one -/
def spOX (K : PySem.W.Frag) (CO CT CD : Addr) : Sp := fun vs H Q E => ∃ (r lo t : Addr) (os ls : List Int) (n : Nat), vs = [.ref r, .ref t] ∧ RdAt CO H r lo os n ∧ (∀ H', Ex H H' r → SqT K H' t (ls.map V.int)) ∧ Pst CO CT CD H r lo os (pof ls os n) RInt Q E
theorem inV_ints (o : Int) (ls : List Int) : inV (.int o) (ls.map V.int) = decide (o ∈ ls) := by
  by_cases h : o ∈ ls
  · rw [inV_int h, decide_eq_true h]
  · rw [decide_eq_false h]
    unfold inV
    rw [Bool.eq_false_iff]
    intro z
    obtain ⟨x, hx, e⟩ := List.any_eq_true.mp z
    obtain ⟨i, hi, rfl⟩ := List.mem_map.mp hx
    have e2 : (i == o) = true ∨ (o == i) = true := by first | exact .inl e | exact .inr e
    rcases e2 with z | z
    · exact h (eq_of_beq z ▸ hi)
    · exact h (eq_of_beq z ▸ hi)
theorem ok_ox {f fI fN CO CT CD : Addr} {fd fdN : FuncData} (F : Fun K "next_octet_of" "OctetReader.next_octet_of" sOctetReaderNextOctetOf f fd) (T : KC K CO fI ORf) (Z : EF P w K mg base CT CD) (GN : FnOk P w K mg base (L2.CX P w) 3 fN fdN ["self", "count"] (spNX CO CT CD)) (bN : Binds K fdN ["self", "count"] []) (mN : Meth K CO "next_octets" fN) :
    FnOk P w K mg base (L2.CX P w) 4 f fd ["self", "allowed"] (spOX K CO CT CD) := by
  have GN' : FnOk P w K mg base (L2.CX P w) 3 fN fdN ["self", "count"] (spNX CO CT CD) := GN
  refine F.okX scOf (fun vs H Q E h => ?_) (fun cdv A outer s H vs Q E hr h => ?_)
  · obtain ⟨r, lo, t, os, ls, n, rfl, _⟩ := h
    rfl
  · obtain ⟨r, lo, t, os, ls, n, rfl, hr', ht, q⟩ := h
    have hr1 := hr.mono (j := 2) (by decide)
    have GE := Z.GE
    refine ⟨_, pss_cons (ps_set (i := 2) scOf.nd rfl (.inl rfl) (pe_fld (pv 0) rfl))
      (pss_cons (ps_set (i := 3) scOf.nd rfl (.inl rfl) (pe_ix ix_list (pe_methX (pv 0) T.cl mN GN' hr bN (fun σ => passAt (takes_of rfl rfl rfl rfl) σ) (pa_cons pe_int pa_nil)) pe_int (fun _ _ => rfl)))
      (pss_cons (ps_if (pt_cmpR op_notIn_seq (pv 3) (pv 1) (by rfl)) (pss_one (ps_raise rfl (takes_of rfl rfl rfl rfl) (pmk_oex Z.D.oc Z.D.iC Z.D.tI GE hr1 Z.bE .nil pass0 (by rfl) Z.gD (pa_cons (pv 2) pa_nil)))) pss_nil)
      (pss_one (ps_ret (pv 3))))), ?_⟩
    obtain ⟨dx, e⟩ := hr'.i
    refine ⟨_, rfl, r, CO, dx, _, .int (n : Int), rfl, e, T.cl, T.na _ (by decide +kernel), rfl, ?_⟩
    refine ⟨_, rfl, r, dx, _, rfl, e, rfl, r, lo, os, n, 1, rfl, hr', ?_⟩
    have q1 : Pst CO CT CD H r lo os (bd (p1 os n) fun o m => if o ∈ ls then .ok (o, m) else .error (false, n)) RInt Q E := q
    refine ⟨fun xs m et H' v ex rd rl => ?_, fun t i et H' d ex hd => q1.bad (by unfold p1; rw [et]; rfl) ex hd⟩
    obtain ⟨p, rfl, hp⟩ := rl
    have xl := (tk_len et).1
    match xs, xl with
    | [o], _ =>
      have e1 : p1 os n = .ok (o, m) := by unfold p1; rw [et]; rfl
      have q2 := q1.next e1 ex
      refine ⟨p, _, 0, .int o, rfl, rfl, .inl (.inl hp), rfl, ?_⟩
      refine ⟨_, rfl, _, rfl, t, _, rfl, .inr (ht _ ex), rfl, flat_ints _, _, rfl, ?_⟩
      rw [inV_ints]
      by_cases ho : o ∈ ls
      · rw [decide_eq_true ho]
        rw [if_pos ho] at q2
        exact iteF ⟨_, rfl, q2.ok _ _ rfl _ _ (Same.ex (Same.refl H')) rd rfl⟩
      · rw [decide_eq_false ho]
        rw [if_neg ho] at q2
        refine iteT ⟨_, rfl, (by show 1 ≤ 1000; decide), fun e0 ne => ⟨e0, CD, "Damaged", _, rfl, Z.D, upd_same, fun dy ndx nde => ⟨rfl, dy, [("name", .str "Damaged"), ("place", .int (n : Int))], ?_, upd_same, ?_, ?_⟩⟩⟩
        · rw [upd_ne nde.symm, upd_same]
        · rw [upd_ne nde] at ndx
          exact ndx
        · rw [upd_ne nde] at ndx
          exact q2.no _ _ rfl _ dy (err_ex (Same.ex (Same.refl H')) ne ndx) upd_same
theorem ok_n4x {f fI fN CO CT CD : Addr} {fd fdN : FuncData} (F : Fun K "next_four" "OctetReader.next_four" sOctetReaderNextFour f fd) (T : KC K CO fI ORf) (GN : FnOk P w K mg base (L2.CX P w) 3 fN fdN ["self", "count"] (spNX CO CT CD)) (bN : Binds K fdN ["self", "count"] []) (mN : Meth K CO "next_octets" fN) :
    FnOk P w K mg base (L2.CX P w) 4 f fd ["self"] (spP CO CT CD RInt p4) := by
  refine F.okX scN4 (fun vs H Q E h => ?_) (fun cdv A outer s H vs Q E hr h => ?_)
  · obtain ⟨r, lo, os, n, rfl, _⟩ := h
    rfl
  · obtain ⟨r, lo, os, n, rfl, hr', O, q⟩ := h
    refine ⟨_, pss_cons (ps_set (i := 1) scN4.nd rfl (.inl rfl) pe_int)
      (pss_cons (ps_for (passes_of rfl) rfl (pi_list (pe_methX (pv 0) T.cl mN GN hr bN (fun σ => passAt (takes_of rfl rfl rfl rfl) σ) (pa_cons pe_int pa_nil))) (pg_name (i := 2) scN4.nd rfl (.inl rfl))
        (pss_one (ps_set (i := 1) scN4.nd rfl (.inl rfl) (pe_op op_add (pe_op op_mul (pv 1) pe_int) (pv 2)))))
      (pss_one (ps_ret (pv 1)))), ?_⟩
    obtain ⟨dx, e⟩ := hr'.i
    refine ⟨_, rfl, r, dx, _, rfl, e, rfl, r, lo, os, n, 4, rfl, hr', ?_⟩
    have q1 : Pst CO CT CD H r lo os (bd (tk 4 os n) fun xs m => .ok (fo xs, m)) RInt Q E := q
    refine ⟨fun xs m et H' v ex rd rl => ?_, fun t i et H' d ex hd => q1.bad et ex hd⟩
    obtain ⟨p, rfl, hp⟩ := rl
    have q2 := q1.next et ex
    obtain ⟨xl, xm⟩ := tk_len et
    have hb : ∀ o ∈ xs, 0 ≤ o ∧ o ≤ 255 := fun o ho => O.o o (xm o ho)
    refine ⟨p, rfl, ⟨_, .inl (.inl hp)⟩, for_it (walk_list (xs := xs.map V.int)) (fun i σ H2 => ∃ y2, σ = [some (.ref r), some (.int (fo (xs.take i))), y2] ∧ H2 = H') ?_ ?_ ?_ ?_⟩
    · exact ⟨none, rfl, rfl⟩
    · rintro i σ H2 hi ⟨y2, rfl, rfl⟩
      exact .inl (.inl hp)
    · rintro i x σ H2 H3 hi ⟨y2, rfl, rfl⟩ ⟨rfl, hx⟩
      rw [List.length_map] at hi
      rw [List.getElem?_map, List.getElem?_eq_getElem hi] at hx
      obtain rfl := Option.some.inj hx
      have ef : fo (xs.take (i + 1)) = fo (xs.take i) * 256 + xs[i] := by
        unfold fo
        rw [List.take_add_one, List.getElem?_eq_getElem hi, List.foldl_append]
        rfl
      rw [ef]
      exact ⟨_, rfl, _, _, rfl, rfl, .inr ⟨by decide, by decide⟩, _, rfl, _, _, rfl, rfl, _, rfl, rfl⟩
    · rintro σ H2 ⟨y2, rfl, rfl⟩
      rw [List.length_map, List.take_length]
      exact ⟨_, rfl, q2.ok _ _ rfl _ _ (Same.ex (Same.refl _)) rd rfl⟩
def spIX (CO CT CD : Addr) : Sp := fun vs H Q E => ∃ (r lo : Addr) (os : List Int) (a b : Int) (n : Nat), vs = [.ref r, .int a, .int b] ∧ RdAt CO H r lo os n ∧ Os os ∧ Pst CO CT CD H r lo os (p4i a b os n) RInt Q E
theorem ok_ix {f fI fN CO CT CD : Addr} {fd fdN : FuncData} (F : Fun K "next_four_in" "OctetReader.next_four_in" sOctetReaderNextFourIn f fd) (T : KC K CO fI ORf) (Z : EF P w K mg base CT CD) (GN : FnOk P w K mg base (L2.CX P w) 4 fN fdN ["self"] (spP CO CT CD RInt p4)) (bN : Binds K fdN ["self"] []) (mN : Meth K CO "next_four" fN) :
    FnOk P w K mg base (L2.CX P w) 5 f fd ["self", "least", "greatest"] (spIX CO CT CD) := by
  refine F.okX scN4i (fun vs H Q E h => ?_) (fun cdv A outer s H vs Q E hr h => ?_)
  · obtain ⟨r, lo, os, a, b, n, rfl, _⟩ := h
    rfl
  · obtain ⟨r, lo, os, a, b, n, rfl, hr', O, q⟩ := h
    have hr1 := hr.mono (j := 2) (by decide)
    have GE := Z.GE
    refine ⟨_, pss_cons (ps_set (i := 3) scN4i.nd rfl (.inl rfl) (pe_fld (pv 0) rfl))
      (pss_cons (ps_set (i := 4) scN4i.nd rfl (.inl rfl) (pe_methX0 (pv 0) T.cl mN GN hr bN (fun σ => passAt (takes_of rfl rfl rfl rfl) σ)))
      (pss_cons (ps_if (pt_not (pt_chain op_le op_le (pv 1) (pv 4) (pv 2))) (pss_one (ps_raise rfl (takes_of rfl rfl rfl rfl) (pmk_oex Z.D.oc Z.D.iC Z.D.tI GE hr1 Z.bE .nil pass0 (by rfl) Z.gD (pa_cons (pv 3) pa_nil)))) pss_nil)
      (pss_one (ps_ret (pv 4))))), ?_⟩
    obtain ⟨dx, e⟩ := hr'.i
    refine ⟨_, rfl, r, CO, dx, _, .int (n : Int), rfl, e, T.cl, T.na _ (by decide +kernel), rfl, ?_⟩
    refine ⟨_, rfl, r, dx, _, rfl, e, rfl, r, lo, os, n, rfl, hr', O, ?_⟩
    have q1 : Pst CO CT CD H r lo os (bd (p4 os n) fun v m => if a ≤ v ∧ v ≤ b then .ok (v, m) else .error (false, n)) RInt Q E := q
    refine ⟨fun v m et H' u ex rd rl => ?_, fun t i et H' d ex hd => q1.bad et ex hd⟩
    obtain rfl : u = .int v := rl
    have q2 := q1.next et ex
    refine ⟨_, rfl, _, rfl, _, _, rfl, rfl, _, rfl, ?_⟩
    by_cases ha : a ≤ v
    · refine iteB (decide_eq_true ha) ⟨_, rfl, _, _, rfl, rfl, _, rfl, ?_⟩
      by_cases hb : v ≤ b
      · rw [if_pos ⟨ha, hb⟩] at q2
        rw [decide_eq_true hb]
        exact iteF ⟨_, rfl, q2.ok _ _ rfl _ _ (Same.ex (Same.refl H')) rd rfl⟩
      · rw [if_neg fun z => hb z.2] at q2
        rw [decide_eq_false hb]
        refine iteT ⟨_, rfl, (by show 1 ≤ 1000; decide), fun e0 ne => ⟨e0, CD, "Damaged", _, rfl, Z.D, upd_same, fun dy ndx nde => ⟨rfl, dy, [("name", .str "Damaged"), ("place", .int (n : Int))], ?_, upd_same, ?_, ?_⟩⟩⟩
        · rw [upd_ne nde.symm, upd_same]
        · rw [upd_ne nde] at ndx
          exact ndx
        · rw [upd_ne nde] at ndx
          exact q2.no _ _ rfl _ dy (err_ex (Same.ex (Same.refl H')) ne ndx) upd_same
    · rw [if_neg fun z => ha z.1] at q2
      refine iteBF (decide_eq_false ha) ⟨false, rfl, iteT ⟨_, rfl, (by show 1 ≤ 1000; decide), fun e0 ne => ⟨e0, CD, "Damaged", _, rfl, Z.D, upd_same, fun dy ndx nde => ⟨rfl, dy, [("name", .str "Damaged"), ("place", .int (n : Int))], ?_, upd_same, ?_, ?_⟩⟩⟩⟩
      · rw [upd_ne nde.symm, upd_same]
      · rw [upd_ne nde] at ndx
        exact ndx
      · rw [upd_ne nde] at ndx
        exact q2.no _ _ rfl _ dy (err_ex (Same.ex (Same.refl H')) ne ndx) upd_same
end
end K2

namespace L2
open PySem PySem.Spec PyProof.Rows
section
variable {P : Program} {w : World} {K : PySem.W.Frag} {mg : Str → Option Value} {base : Heap}
/-- as Fun.okX, the exceptions raised where nothing is handled -/
theorem Fun.okN {x qual : Str} {st : Stmt} {f : Addr} {fd : FuncData} {N ps : List Str} {k : Nat} {sp : Sp} (F : Fun K x qual st f fd) (S : FnScope N ps (defScope st)) (len : ∀ vs H Q E, sp vs H Q E → vs.length = ps.length)
    (hbody : ∀ (cdv : Value) (A : Around) (outer : List Env) (s : Shared) (H : Hp) (vs : List V) (Q : VK) (E : XK), Room k (A.deeper (envOfC qual (defScope st) s.heap.objs.size f cdv)) → sp vs H Q E →
      ∃ t, PSs (cxOf (L2N.CX P w) P w K mg base N qual (defScope st) f cdv A outer s H E) (defBody st) t ∧ t { nx := fun _ H' => Q .non H', rt := Q } (start N vs) H) : FnOk P w K mg base (L2N.CX P w) (k + 1) f fd ps sp := by
  obtain ⟨oc, od, kV, doc, pm, an, cdv, ct, osl, rfl, lk, hcd⟩ := F.ex
  exact fn_of lk hcd S len fun A outer s H vs Q E hr hsp => hbody cdv A outer s H vs Q E hr hsp
/-- where it is called in an except suite -/
theorem Fun.okH {x qual : Str} {st : Stmt} {f : Addr} {fd : FuncData} {N ps : List Str} {k : Nat} {sp : Sp} (F : Fun K x qual st f fd) (S : FnScope N ps (defScope st)) (len : ∀ vs H Q E, sp vs H Q E → vs.length = ps.length)
    (hbody : ∀ (cdv : Value) (A : Around) (outer : List Env) (s : Shared) (H : Hp) (vs : List V) (Q : VK) (E : XK) (p : Addr × Obj), L2H.Hot1 A p → L2H.RoomH k (A.deeper (envOfC qual (defScope st) s.heap.objs.size f cdv)) → sp vs H Q E →
      ∃ t, PSs (L2H.cxH CX0 P w K mg base N qual (defScope st) f cdv A outer s H E p) (defBody st) t ∧ t { nx := fun _ H' => Q .non H', rt := Q } (start N vs) H) : L2H.FnH P w K mg base CX0 (k + 1) f fd ps sp := by
  obtain ⟨oc, od, kV, doc, pm, an, cdv, ct, osl, rfl, lk, hcd⟩ := F.ex
  exact L2H.fn_ofH lk hcd S len fun A outer s H vs Q E p hot hr hsp => hbody cdv A outer s H vs Q E p hot hr hsp
/-- an exception whose context is None is an exception -/
theorem FnOk.toX {k : Nat} {f : Addr} {fd : FuncData} {ps : List Str} {sp : Sp} (F : FnOk P w K mg base (L2N.CX P w) k f fd ps sp) : FnOk P w K mg base (L2.CX P w) k f fd ps sp :=
  ⟨F.len, fun A outer s H args us vs Q E hr he hb hv hs => codeAny_mono (F.run A outer s H args us vs Q E hr he hb hv hs) fun r s' hq => by
    cases r with
    | ok fl => cases fl <;> exact hq
    | error e =>
      obtain ⟨a, B, H', cls, d, e1, fl, r⟩ := (show L2N.CX P w outer H s E e s' from hq)
      exact ⟨a, B, H', cls, d, e1, L2H.flyingZ_imp (fun _ z => z.zc) fl, r⟩⟩
end
section
variable {X : Cx} {e : Expr} {es : List Expr} {ta : TA} {p pos : Pos}
/-- C(e, ..), an own class with a dict, where nothing is handled -/
theorem pmk_oexN {CX : CXT} {x : Str} {C fI : Addr} {k : Nat} {fd : FuncData} {ps : List Str} {sp : Sp} (T : OexC X.K C) (iC : PySem.W.findIn X.K (.ref C) "__init__" = some (some (.ref fI))) (tI : PySem.W.typeIn X.K (.ref fI) = some (.type "function"))
    (F1 : FnOk X.prog X.w X.K X.mg X.base CX k fI fd ps sp) (hr : Room (k + 1) X.A) (hb : Binds X.K fd ps []) (hx : Passes CX X (fun _ _ _ => False)) (hg : Gl X x) (hm : X.mg x = some (.ref C)) (ha : PA X (e :: es) ta)
    (hdb : (x == ("__debug__" : Str)) = false := by decide) (he : starEach (e :: es) X.env = (false, eval e X.env) :: starEach es X.env := by rfl) (hpl : (backTo pos (starEach es X.env)).any (·.1) = false := by rfl) :
    L2N.PMk X (.Call (.Name x p) (e :: es) [] pos) (tMkO C sp [] ta) := by
  intro pins s σ H Q I h
  obtain ⟨nm, q, N, bs, bm, sn, sub, ab, col, dd, k0, k1, k2, k3, k5, hC, hbm⟩ := T.cls
  refine wpAny_Call_Name_kw (ld_glob I hg hm ?_ hdb)
  refine PySem.W.callWith_K (h₀ := X.base) I.ok.mod.kin T.kC (thn (ha.run pos pins s σ H _ I h) fun us s1 ⟨vs, H1, I1, r1, hz, q1⟩ => ⟨I1.kIn, ?_⟩) he hpl
  show wpAny _ _ (call (.ref C) us) _ _ _
  obtain ⟨hp, g, dr, tk, os⟩ := s1
  obtain ⟨A0, eA⟩ : ∃ A0 : Addr, A0 = hp.objs.size + 1 := ⟨_, rfl⟩
  have lt : hp.objs.size ≤ A0 := by rw [eA]; exact Nat.le_succ _
  have hq := q1 A0 (I1.hok.fresh lt)
  rw [List.append_nil] at hq
  have old : ∀ b o, hp.get? b = some o → ((hp.push (PySem.W.kdv_tup us)).push (PySem.HandSPX.excO C hp.objs.size)).get? b = some o := fun b o z => Heap.get?_push_of_some _ (Heap.get?_push_of_some _ z)
  have new : ((hp.push (PySem.W.kdv_tup us)).push (PySem.HandSPX.excO C hp.objs.size)).get? A0 = some (PySem.HandSPX.excO C hp.objs.size) := by rw [eA]; heap_get
  have J := I1.laid (t' := tk) (a := A0) (o := exo A0 C none) (h' := (hp.push (PySem.W.kdv_tup us)).push (PySem.HandSPX.excO C hp.objs.size)) old lt (exo_ok new)
  have rv2 : Vals (V.ref A0 :: vs) (Value.ref A0 :: us) := .cons rfl r1
  have ll : (Value.ref A0 :: us ++ []).length = ps.length := by
    rw [List.append_nil, ← F1.len _ _ _ _ hq]
    exact rv2.length.symm
  have hus : us.length ≤ sizeLine := by
    rw [← Paired.length r1, sizeLine_eq]
    omega
  have bb := hb _ (Value.ref A0 :: us) J.kIn ll
  rw [List.append_nil] at bb
  subst eA
  refine wpAny_call (PySem.HandSPX.call_own F.excBase_ValueError (fun Y => PySem.HandSPX.refsVE_contains Y bm hbm) (I1.kIn _ _ hC) (PySem.W.looks_findIn I1.kIn iC) (fun self => PySem.W.bind_fn I1.kIn self tI) hus
    (codeAny_mono (F1.run _ X.stack _ _ ⟨_, []⟩ _ _ _ (fun _ _ _ => False) (hr.make C us []) (J.env0.make C us []) bb rv2 hq) fun r s' hq' => ?_))
  match r, hq' with
  | .error er, hq' => exact hx pins σ _ _ er s' J hq'
  | .ok (.ret u), ⟨v, H2, os2, bare2, un2, hok2, rv, ev, d, fs, ea, ed, hd1, q2⟩ =>
    subst ev
    obtain ⟨h2, g2, d2, t2, os'⟩ := s'
    obtain ⟨t0, G, J2, kG, ge, hoe, na⟩ := mk_end0 (d2 := d2) (t2 := t2) I1 lt old un2 hok2 os2 bare2 ea ed hd1
    exact ⟨rv, _, _, _, ⟨G, g2, d2, t2, os'⟩, _, .ref C, some d, rfl, J2, kG, ge, hoe, ⟨rfl, rfl, fun vs hv => by cases hv; rfl⟩, rfl, rfl, na, rfl, bare2, raises_own T.exC T.tyC, q2⟩
  | .ok .next, hq' => exact False.elim hq'
  | .ok .brk, hq' => exact False.elim hq'
  | .ok .cont, hq' => exact False.elim hq'
end
end L2
namespace K2
open PySem L2
section
variable {P : Program} {w : World} {K : PySem.W.Frag} {mg : Str → Option Value} {base : Heap}
theorem ok_initH {f : Addr} {fd : FuncData} (F : Fun K "__init__" "ManysidesError.__init__" sInit f fd) : L2H.FnH P w K mg base CX0 1 f fd ["self", "place"] (spInit K f) := by
  refine F.okH scInit (fun vs H Q E h => ?_) (fun cdv A outer s H vs Q E p hot hr h => ?_)
  · obtain ⟨a, C, nm, v, rfl, _⟩ := h
    rfl
  · obtain ⟨a, C, nm, v, rfl, T, ha, q⟩ := h
    refine ⟨_, pss_cons (ps_ost (pv 0) (pv 1)) (pss_one (ps_ost (pv 0) (pe_cname (pe_eclass (pv 0))))), ?_⟩
    refine ⟨_, rfl, _, rfl, a, C, rfl, T.oc, T.noP, .inl ⟨ha, fun dx ndx nda => ?_⟩⟩
    have e1 : (upd (upd H dx (exd dx [("place", v)])) a (exo a C (some dx))) dx = some (exd dx [("place", v)]) := by rw [upd_ne nda, upd_same]
    refine ⟨_, rfl, a, C, some dx, rfl, T.ec, upd_same, fun d e => ?_, C, nm, rfl, T.nc, _, rfl, a, C, rfl, T.oc, T.noN, .inr ⟨dx, _, upd_same, e1, (by show 1 ≤ 900; decide), q dx ndx nda⟩⟩
    cases e
    exact ⟨_, e1⟩
end
end K2

namespace K2
open PySem L2
def CHS2 : Str := " !\"#$\n&'()*+,-./0123456789:;<=>?@ABCDEFGHIJKLMNOPQRSTUVWXYZ[\\]^_`abcdefghijklmnopqrstuvwxyz{|}~"
def sg (c : Nat) : Str := ⟨#[c]⟩
structure Ct4 (mg : Str → Option Value) : Prop where
  lf : ∃ v, mg "LINE_FEED" = some v ∧ RelV (.int 10) v
  sp : ∃ v, mg "SPACE" = some v ∧ RelV (.int 32) v
  pc : ∃ v, mg "PERCENT_SIGN" = some v ∧ RelV (.int 37) v
  ti : ∃ v, mg "TILDE" = some v ∧ RelV (.int 126) v
  ch : ∃ v, mg "CHARACTERS" = some v ∧ RelV (.str CHS2) v
  nc : ∃ v, mg "NAME_CHARACTERS" = some v ∧ RelV (.str NCH) v
  dg : ∃ v, mg "DIGITS" = some v ∧ RelV (.str DIG) v
  lg : ∃ v, mg "LONGEST_NAME" = some v ∧ RelV (.int 30) v
def okI (n : Int) : Bool := decide (n = 10) || (decide (32 ≤ n) && decide (n ≤ 126) && !decide (n = 37))
theorem okI_lt {n : Int} (h : okI n = true) : 0 ≤ n ∧ n < 127 := by
  unfold okI at h
  rw [Bool.or_eq_true, Bool.and_eq_true, Bool.and_eq_true, decide_eq_true_eq, decide_eq_true_eq, decide_eq_true_eq] at h
  omega
theorem char_tab : ∀ c : Nat, c < 127 → okI (c : Int) = true → ¬ c = 10 → 32 ≤ c ∧ CHS2.cps.toList[c - 32]? = some c := by decide +kernel
theorem nch_ok : ∀ c ∈ NCH.cps.toList, okI (c : Int) = true := by decide +kernel
theorem ncode_ok {o : Int} (h0 : 0 ≤ o) (h : ncode o = true) : okI o = true := by
  have := nch_ok _ (of_decide_eq_true h)
  rwa [Int.toNat_of_nonneg h0] at this
/-- a text that is all stripped is made of what was stripped -/
theorem strip_all {z y : Str} (h : Txt.stripChars z y = ("" : Str)) : ∀ c ∈ z.cps.toList, c ∈ y.cps.toList := by
  intro c hc
  unfold Txt.stripChars at h
  rw [PyProof.Rows.stripBy_eq] at h
  have zl : z.cps.toList.length = z.length := by simp [Str.length]
  have llo : stripLo y.cps.contains true z ≤ z.length := by
    simp only [stripLo, if_true]
    rw [← zl]
    exact (List.takeWhile_prefix _).length_le
  obtain ⟨f1, f2, f3, _⟩ := PyProof.Rows.hi_facts y.cps.contains z _ llo
  have e : stripHi y.cps.contains true z (stripLo y.cps.contains true z) = stripLo y.cps.contains true z := by
    have h2 := congrArg (fun s : Str => s.cps.size) h
    unfold Builtin.Str.strSub at h2
    have h3 : min (stripHi y.cps.contains true z (stripLo y.cps.contains true z)) z.cps.size - stripLo y.cps.contains true z = 0 := by
      have : (z.cps.extract (stripLo y.cps.contains true z) (stripHi y.cps.contains true z (stripLo y.cps.contains true z))).size = 0 := h2.trans (by decide +kernel)
      rwa [Array.size_extract] at this
    have : z.cps.size = z.length := rfl
    omega
  rw [e] at f3
  obtain ⟨k, hk, ek⟩ := List.getElem_of_mem hc
  have goes : y.cps.contains c = true := by
    by_cases q : stripLo y.cps.contains true z ≤ k
    · have := f3 k q (by omega)
      rw [← ek]
      rwa [show z.cps.getD k 0 = z.cps.toList[k] from by
        have hk2 : k < z.cps.size := by rw [← Array.length_toList]; exact hk
        rw [Array.getD_eq_getD_getElem?, Array.getElem?_eq_getElem hk2]
        rfl] at this
    · have hk3 : k < (z.cps.toList.takeWhile y.cps.contains).length := by
        simp only [stripLo, if_true] at q
        omega
      have := List.all_takeWhile (p := y.cps.contains) (l := z.cps.toList)
      rw [List.all_eq_true] at this
      refine this c ?_
      rw [← ek]
      have pre := List.takeWhile_prefix y.cps.contains (l := z.cps.toList)
      rw [← pre.getElem hk3]
      exact List.getElem_mem hk3
  have := Array.contains_iff_mem.mp goes
  exact Array.mem_def.mp this
theorem txt_list (xs : List Int) : (txt xs).cps.toList = xs.map Int.toNat := by simp [txt]
theorem txt_len (xs : List Int) : (txt xs).length = xs.length := by simp [txt, Str.length]
theorem simp_all {xs : List Int} (h : simp (txt xs) = true) : xs.all ncode = true := by
  unfold simp at h
  rw [Bool.and_eq_true, Bool.and_eq_true, Bool.and_eq_true] at h
  have h2 := strip_all (of_decide_eq_true h.2.1)
  rw [List.all_eq_true]
  intro o ho
  unfold ncode
  refine decide_eq_true (h2 _ ?_)
  rw [txt_list]
  exact List.mem_map.mpr ⟨o, ho, rfl⟩
theorem nmOk_simp {xs : List Int} : nmOk xs = simp (txt xs) := by
  unfold nmOk
  cases h : simp (txt xs) with
  | false => rw [Bool.and_false]
  | true => rw [simp_all h, Bool.true_and]
theorem nmOk_bad {xs : List Int} (h0 : ∀ o ∈ xs, 0 ≤ o ∧ o ≤ 255) (h : xs.all okI = false) : nmOk xs = false := by
  unfold nmOk
  cases e : xs.all ncode with
  | false => rw [Bool.false_and]
  | true =>
    have : xs.all okI = true := by
      rw [List.all_eq_true] at e ⊢
      exact fun o ho => ncode_ok (h0 o ho).1 (e o ho)
    rw [h] at this
    cases this
theorem join_sg : ∀ cs : List Nat, Str.join ("" : Str) (cs.map sg) = ⟨cs.toArray⟩
  | [] => rfl
  | [c] => rfl
  | c :: d :: r => by
    have ih := join_sg (d :: r)
    show sg c ++ ("" : Str) ++ Str.join ("" : Str) ((d :: r).map sg) = _
    rw [ih]
    have e0 : ("" : Str) = ⟨#[]⟩ := by decide +kernel
    rw [e0]
    show Str.mk ((#[c] ++ #[]) ++ (d :: r).toArray) = Str.mk (c :: d :: r).toArray
    simp
theorem join_txt (cs : List Nat) : Txt.join ("" : Str) (cs.map sg) = ⟨cs.toArray⟩ := by
  show Builtin.Str.glued ("" : Str) (cs.map sg) = _
  rw [StrLaws.glued_eq_join, join_sg]
theorem sg_sum (cs : List Nat) : ((cs.map sg).map (·.length)).sum = cs.length := by
  induction cs with
  | nil => rfl
  | cons c r ih =>
    rw [List.map_cons, List.map_cons, List.sum_cons, ih, List.length_cons]
    show 1 + r.length = _
    omega
theorem int_eq (a b : Int) : decide (V.int a = V.int b) = decide (a = b) := by
  by_cases e : a = b
  · subst e
    rw [decide_eq_true rfl, decide_eq_true rfl]
  · rw [decide_eq_false e, decide_eq_false fun h => e (V.int.inj h)]
theorem nl_sg : ("\n" : Str) = sg 10 := by decide +kernel
section
variable {P : Program} {w : World} {K : PySem.W.Frag} {mg : Str → Option Value} {base : Heap}
def spIsCode : Sp := fun vs H Q _ => ∃ n : Int, vs = [.int n] ∧ Q (.bl (okI n)) H
theorem scIsCode : FnScope ["octet"] ["octet"] (defScope sIsCode) := ⟨rfl, rfl, rfl, by decide +kernel, rfl, by decide +kernel, by decide +kernel⟩
theorem ok_isCode {f : Addr} {fd : FuncData} (F : Fun K "is_code" "is_code" sIsCode f fd) (N : Ct4 mg) : FnOk P w K mg base CX0 1 f fd ["octet"] spIsCode := by
  refine F.ok scIsCode (fun vs H Q E h => ?_) (fun cdv A outer s H vs Q E hr h => ?_)
  · obtain ⟨n, rfl, _⟩ := h
    rfl
  · obtain ⟨n, rfl, q⟩ := h
    obtain ⟨u1, m1, r1⟩ := N.lf
    obtain ⟨u2, m2, r2⟩ := N.sp
    obtain ⟨u3, m3, r3⟩ := N.pc
    obtain ⟨u4, m4, r4⟩ := N.ti
    refine ⟨_, pss_one (ps_ret (pe_or (pe_cmpR op_eq (pv 0) (pe_glob (by rfl) m1 r1) (nomark _))
      (pe_one (pe_and (pe_chain op_le op_le (pe_glob (by rfl) m2 r2) (pv 0) (pe_glob (by rfl) m4 r4)) (pe_one (pe_cmpR op_ne (pv 0) (pe_glob (by rfl) m3 r3) (nomark _))))))), ?_⟩
    refine ⟨_, rfl, rfl, _, rfl, ?_⟩
    rw [int_eq]
    have e0 : okI n = (decide (n = 10) || (decide (32 ≤ n) && decide (n ≤ 126) && !decide (n = 37))) := rfl
    by_cases h1 : n = 10
    · refine iteB (decide_eq_true h1) ?_
      rw [e0, decide_eq_true h1, Bool.true_or] at q
      exact q
    · refine iteBF (decide_eq_false h1) ⟨_, rfl, 32, n, rfl, rfl, _, rfl, ?_⟩
      rw [e0, decide_eq_false h1, Bool.false_or] at q
      by_cases h2 : 32 ≤ n
      · refine iteB (decide_eq_true h2) ⟨n, 126, rfl, rfl, _, rfl, ?_⟩
        rw [decide_eq_true h2, Bool.true_and] at q
        by_cases h3 : n ≤ 126
        · refine iteB (decide_eq_true h3) ⟨_, rfl, rfl, ?_⟩
          rw [decide_eq_true h3, Bool.true_and] at q
          rw [int_eq]
          exact q
        · refine iteBF (decide_eq_false h3) ?_
          rw [decide_eq_false h3, Bool.false_and] at q
          exact q
      · refine iteBF (decide_eq_false h2) ⟨_, rfl, iteF ?_⟩
        rw [decide_eq_false h2, Bool.false_and, Bool.false_and] at q
        exact q
def spChar : Sp := fun vs H Q _ => ∃ c : Nat, vs = [.int (c : Int)] ∧ okI (c : Int) = true ∧ Q (.str (sg c)) H
theorem scChar : FnScope ["code"] ["code"] (defScope sCharacterOf) := ⟨rfl, rfl, rfl, by decide +kernel, rfl, by decide +kernel, by decide +kernel⟩
theorem ok_char {f : Addr} {fd : FuncData} (F : Fun K "character_of" "character_of" sCharacterOf f fd) (N : Ct4 mg) : FnOk P w K mg base CX0 1 f fd ["code"] spChar := by
  refine F.ok scChar (fun vs H Q E h => ?_) (fun cdv A outer s H vs Q E hr h => ?_)
  · obtain ⟨c, rfl, _⟩ := h
    rfl
  · obtain ⟨c, rfl, hc, q⟩ := h
    obtain ⟨u1, m1, r1⟩ := N.lf
    obtain ⟨u2, m2, r2⟩ := N.sp
    obtain ⟨u3, m3, r3⟩ := N.ch
    refine ⟨_, pss_cons (ps_if (pt_cmpR op_eq (pv 0) (pe_glob (by rfl) m1 r1) (nomark _)) (pss_one (ps_ret pe_str)) pss_nil)
      (pss_one (ps_ret (pe_ix ix_str (pe_glob (by rfl) m3 r3) (pe_op op_sub (pv 0) (pe_glob (by rfl) m2 r2)) (fun _ _ => rfl)))), ?_⟩
    refine ⟨_, rfl, rfl, _, rfl, ?_⟩
    rw [int_eq]
    by_cases h1 : c = 10
    · refine iteB (decide_eq_true (by omega)) ?_
      subst h1
      show Q (.str ("\n" : Str)) H
      rw [nl_sg]
      exact q
    · refine iteBF (decide_eq_false (by omega)) ?_
      obtain ⟨h4, h3⟩ := char_tab c (by have := (okI_lt hc).2; omega) hc h1
      refine ⟨_, rfl, _, _, rfl, rfl, CHS2, _, c, rfl, rfl, (by decide +kernel), ?_, q⟩
      have : (c : Int) - 32 = ((c - 32 : Nat) : Int) := by omega
      show atI CHS2.cps.toList ((c : Int) - 32) = some c
      rw [this]
      exact atI_nat h3
def spDec (C : Addr) : Sp := fun vs H Q E => ∃ (a : Addr) (os : List Int), vs = [.ref a] ∧ H a = some (.lst (os.map V.int)) ∧ os.length ≤ 900 ∧
  (os.all okI = true → ∀ H', Same H H' → Q (.str (txt os)) H') ∧ (os.all okI = false → ∀ H' d, Same H H' → E (.ref C) (some d) H')
theorem scDec : FnScope ["octets", "index", "octet"] ["octets"] (defScope sDecodeText) := ⟨rfl, rfl, rfl, by decide +kernel, rfl, by decide +kernel, by decide +kernel⟩
theorem ok_dec {f fC fH fI C : Addr} {fd fdC fdH fdI : FuncData} (F : Fun K "decode_text" "decode_text" sDecodeText f fd) (N : Nm mg) (N4 : Ct4 mg) (FC : Fun K "is_code" "is_code" sIsCode fC fdC) (bC : Binds K fdC ["octet"] []) (gC : mg "is_code" = some (.ref fC))
    (FH : Fun K "character_of" "character_of" sCharacterOf fH fdH) (bH : Binds K fdH ["code"] []) (gH : mg "character_of" = some (.ref fH)) (FI : Fun K "__init__" "ManysidesError.__init__" sInit fI fdI) (bI : Binds K fdI ["self", "place"] []) (T : ErrC K C fI "InvalidText") (gE : mg "InvalidText" = some (.ref C)) :
    FnOk P w K mg base (L2N.CX P w) 3 f fd ["octets"] (spDec C) := by
  have GC : FnOk P w K mg base CX0 1 fC fdC ["octet"] spIsCode := ok_isCode FC N4
  have GH : FnOk P w K mg base CX0 1 fH fdH ["code"] spChar := ok_char FH N4
  have GI : FnOk P w K mg base CX0 1 fI fdI ["self", "place"] (spInit K fI) := ok_init FI
  refine F.okN scDec (fun vs H Q E h => ?_) (fun cdv A outer s H vs Q E hr h => ?_)
  · obtain ⟨a, os, rfl, _⟩ := h
    rfl
  · obtain ⟨a, os, rfl, hS, hl, q, qe⟩ := h
    have hr1 := hr.mono (j := 1) (by decide)
    refine ⟨_, pss_cons (ps_for (passes_of rfl) rfl (pi_enum (by rfl) N.enumerate (pa_cons (pv 0) pa_nil)) (pg_tup (by rfl) (pgs_cons (pg_name (i := 1) scDec.nd rfl (.inl rfl)) (pgs_cons (pg_name (i := 2) scDec.nd rfl (.inl rfl)) pgs_nil)))
        (pss_one (ps_if (pt_not (pt_val (pe_call GC hr1 (by rfl) gC FC.kp bC .nil pass0 (pa_cons (pv 2) pa_nil))))
          (pss_one (L2N.ps_raise rfl (L2N.takes_of rfl rfl rfl rfl) (pmk_oexN T.oc T.iC T.tI GI hr bI pass0 (by rfl) gE (pa_cons (pv 1) pa_nil)))) pss_nil)))
      (pss_one (ps_ret (pe_join pe_str (pe_lc (own := [("octet", 2)]) (g := gName 2) (tt := tYes) rfl scDec.nd (pi_list (pv 0))
        (blkOk_by (N := ["octets", "index", "octet"]) (sc := defScope sDecodeText) (by decide +kernel))
        (fun _ _ _ _ _ => pg_name (i := 2) scDec.nd rfl (Or.inl rfl)) (fun _ _ _ _ _ => pts_nil)
        (fun _ _ _ _ _ => pe_call GH hr1 (by rfl) gH FH.kp bH .nil pass0 (pa_cons (pv 2) pa_nil)))))), ?_⟩
    refine ⟨.ref a, rfl, a, os.map V.int, rfl, .inl (.inl hS), ?_⟩
    refine for_it (walk_enum (xs := os.map V.int)) (fun i σ H3 => ∃ y1 y2, σ = [some (.ref a), y1, y2] ∧ Same H H3 ∧ (os.take i).all okI = true) ⟨_, _, rfl, Same.refl _, rfl⟩ (fun i σ H3 hi => ?_) ?_ ?_
    · rintro ⟨y1, y2, rfl, sm, _⟩
      exact .inl (.inl (sm _ _ hS))
    · rintro i x σ H3 H' hi ⟨y1, y2, rfl, sm, hb⟩ ⟨Tp, x1, x2, rfl, nT, rfl, f1, f2⟩
      rw [List.length_map] at hi
      have ei : (os.map V.int)[i]? = some (.int os[i]) := by
        rw [List.getElem?_map, List.getElem?_eq_getElem hi]
        rfl
      obtain rfl : x1 = .int (i : Int) := (Option.some.inj f1).symm
      obtain rfl : x2 = .int os[i] := Option.some.inj (f2.symm.trans ei)
      have sm' := sm.trans (same_new (o := .tup [V.int (i : Int), V.int os[i]]) nT)
      refine ⟨Tp, _, rfl, .inl (.inl upd_same), rfl, _, _, rfl, _, _, rfl, rfl, ?_⟩
      refine ⟨_, rfl, os[i], rfl, okI os[i], rfl, ?_⟩
      by_cases ho : okI os[i] = true
      · refine iteBF (by rw [ho]; rfl) ⟨_, _, rfl, sm', ?_⟩
        rw [List.take_add_one, List.getElem?_eq_getElem hi, List.all_append, hb, Bool.true_and]
        show [os[i]].all okI = true
        rw [List.all_cons, ho]
        rfl
      · have hbad : os.all okI = false := by
          rw [Bool.eq_false_iff]
          intro z
          rw [List.all_eq_true] at z
          exact ho (z _ (List.getElem_mem hi))
        refine iteB (by rw [Bool.eq_false_iff.mpr ho]; rfl) ?_
        refine ⟨_, rfl, (by show 1 ≤ 1000; decide), fun e ne => ⟨e, C, "InvalidText", _, rfl, T, upd_same, fun dx ndx nde => ⟨rfl, dx, [("name", .str "InvalidText"), ("place", .int (i : Int))], ?_, upd_same, ?_, ?_⟩⟩⟩
        · rw [upd_ne nde.symm, upd_same]
        · rw [upd_ne nde] at ndx
          exact ndx
        · have ndx' : (upd H3 Tp (.tup [V.int (i : Int), V.int os[i]])) dx = none := by
            rw [upd_ne nde] at ndx
            exact ndx
          exact qe hbad _ dx (same_err sm' ne ndx')
    · rintro σ H3 ⟨y1, y2, rfl, sm, hb⟩
      rw [List.length_map, List.take_length] at hb
      refine ⟨⟨_, rfl⟩, .ref a, rfl, a, rfl, ⟨_, .inl (.inl (sm _ _ hS))⟩, fun D nD => ?_⟩
      refine lc_it (walk_list (xs := os.map V.int)) (fun i H4 => Same H3 H4 ∧ H4 D = some (.lst ((((os.map Int.toNat).take i).map sg).map V.str))) ⟨same_new nD, upd_same⟩ (fun i H4 _ p => .inl (.inl (p.1 _ _ (sm _ _ hS)))) ?_ ?_
      · rintro i x H4 H' hi ⟨s4, hD⟩ ⟨rfl, hx⟩
        rw [List.length_map] at hi
        rw [List.getElem?_map, List.getElem?_eq_getElem hi] at hx
        obtain rfl := Option.some.inj hx
        have ho : okI os[i] = true := (List.all_eq_true.mp hb) _ (List.getElem_mem hi)
        have e0 := (okI_lt ho).1
        refine ⟨rfl, ?_⟩
        dsimp only [tYes]
        rw [if_pos rfl]
        refine ⟨_, rfl, os[i].toNat, by rw [Int.toNat_of_nonneg e0] <;> rfl, by rw [Int.toNat_of_nonneg e0]; exact ho, _, hD, ?_, same_put s4 nD, ?_⟩
        · rw [List.length_map, List.length_map, List.length_take]
          exact small1000 (by omega)
        · rw [upd_same, List.take_add_one, List.getElem?_map, List.getElem?_eq_getElem hi, List.map_append, List.map_append]
          rfl
      · rintro H4 ⟨s4, hD⟩
        have e0 : (os.map V.int).length = (os.map Int.toNat).length := by rw [List.length_map, List.length_map]
        rw [e0, List.take_length] at hD
        refine ⟨("" : Str), D, (os.map Int.toNat).map sg, rfl, rfl, .inl (.inl (.inl hD)), ?_, ?_⟩
        · rw [sg_sum, List.length_map]
          have e1 : ("" : Str).length = 0 := by decide +kernel
          rw [e1, Nat.mul_zero]
          exact Nat.le_of_lt (small1000 (by omega))
        · rw [join_txt]
          exact q hb H4 (sm.trans s4)
theorem hd_at {z : Str} (h : 1 ≤ (z.length : Int)) : atI z.cps.toList 0 = some (hd0 z) := by
  have hl : 0 < z.cps.toList.length := by
    have e : z.cps.toList.length = z.length := by simp [Str.length]
    omega
  have : z.cps.toList[0]? = some (hd0 z) := by
    unfold hd0
    rw [List.getD_eq_getElem?_getD, List.getElem?_eq_getElem hl]
    rfl
  exact atI_nat (j := 0) this
def spSimple : Sp := fun vs H Q _ => ∃ z : Str, vs = [.str z] ∧ z.length ≤ 1000 ∧ Q (.bl (simp z)) H
theorem scSimple : FnScope ["text"] ["text"] (defScope sIsSimpleName) := ⟨rfl, rfl, rfl, by decide +kernel, rfl, by decide +kernel, by decide +kernel⟩
theorem ok_simple {f : Addr} {fd : FuncData} (F : Fun K "is_simple_name" "is_simple_name" sIsSimpleName f fd) (M : Nm mg) (N : Ct4 mg) : FnOk P w K mg base CX0 1 f fd ["text"] spSimple := by
  refine F.ok scSimple (fun vs H Q E h => ?_) (fun cdv A outer s H vs Q E hr h => ?_)
  · obtain ⟨z, rfl, _⟩ := h
    rfl
  · obtain ⟨z, rfl, hl, q⟩ := h
    have hz2 : z.length ≤ sizeLine := Nat.le_trans hl (by decide)
    obtain ⟨u1, m1, r1⟩ := N.nc
    obtain ⟨u2, m2, r2⟩ := N.dg
    obtain ⟨u3, m3, r3⟩ := N.lg
    refine ⟨_, pss_cons (ps_if (pt_not (pt_chain op_le op_le pe_int (pe_callB call_len_str (by rfl) M.len PySem.boot_len (pa_cons (pv 0) pa_nil)) (pe_glob (by rfl) m3 r3))) (pss_one (ps_ret pe_bl)) pss_nil)
      (pss_one (ps_ret (pe_and (pe_cmpR op_eq (pe_m1 PySem.F.slot_str_strip PySem.F.type_str_strip mt_stripChars (pv 0) (pe_glob (by rfl) m1 r1)) pe_str (nomark _)) (pe_one (pe_cmpR op_notInS (pe_ix ix_str (pv 0) pe_int (fun _ _ => rfl)) (pe_glob (by rfl) m2 r2) (by rfl)))))), ?_⟩
    refine ⟨_, rfl, z, rfl, hz2, 1, (z.length : Int), rfl, rfl, _, rfl, ?_⟩
    unfold simp at q
    by_cases h1 : (1 : Int) ≤ (z.length : Int)
    · refine iteB (decide_eq_true h1) ⟨(z.length : Int), 30, rfl, rfl, _, rfl, ?_⟩
      rw [decide_eq_true h1, Bool.true_and] at q
      by_cases h2 : (z.length : Int) ≤ 30
      · rw [decide_eq_true h2, Bool.true_and] at q
        refine iteBF (by rw [decide_eq_true h2]; rfl) ?_
        refine ⟨_, rfl, ⟨z, rfl⟩, z, NCH, rfl, rfl, hz2, rfl, _, rfl, ?_⟩
        rw [str_eq]
        by_cases h3 : Txt.stripChars z NCH = ("" : Str)
        · rw [decide_eq_true h3, Bool.true_and] at q
          exact iteB (decide_eq_true h3) ⟨_, rfl, z, 0, hd0 z, rfl, rfl, hz2, hd_at h1, hd0 z, DIG, rfl, rfl, by rw [← decide_not]; exact q⟩
        · rw [decide_eq_false h3, Bool.false_and] at q
          exact iteBF (decide_eq_false h3) q
      · rw [decide_eq_false h2, Bool.false_and] at q
        exact iteB (by rw [decide_eq_false h2]; rfl) q
    · rw [decide_eq_false h1, Bool.false_and, Bool.false_and] at q
      exact iteBF (decide_eq_false h1) ⟨false, rfl, iteT q⟩
end
end K2

namespace K2
open PySem L2
theorem fm_split {α : Type} (f : α → List Int) {l : List α} {i : Nat} (h : i < l.length) : l.flatMap f = (l.take i).flatMap f ++ (f l[i] ++ (l.drop (i + 1)).flatMap f) := by
  conv => lhs; rw [← List.take_append_drop i l, List.drop_eq_getElem_cons h]
  rw [List.flatMap_append, List.flatMap_cons]
/-- where the i-th begins -/
theorem at_i {α : Type} {f : α → List Int} {l : List α} {os rest : List Int} {n i : Nat} (hd : os.drop n = l.flatMap f ++ rest) (h : i < l.length) : os.drop (n + ((l.take i).flatMap f).length) = f l[i] ++ ((l.drop (i + 1)).flatMap f ++ rest) := by
  refine drop_add' ?_
  rw [hd, fm_split f h]
  simp only [List.append_assoc]
theorem len_i {α : Type} (f : α → List Int) {l : List α} {i n : Nat} (h : i < l.length) : n + ((l.take i).flatMap f).length + (f l[i]).length = n + ((l.take (i + 1)).flatMap f).length := by
  rw [fm_succ f h, List.length_append]
  omega
theorem RowAt.ex {CO : Addr} {H H1 : Hp} {r lo : Addr} {os : List Int} {n : Nat} {t : List V} {x : V} (h : RowAt H t x) (e : Ex H H1 r) (rd : RdAt CO H r lo os n) : RowAt H1 t x := by
  obtain ⟨a, e1, e2⟩ := h
  obtain ⟨dx, e3⟩ := rd.i
  exact ⟨a, e1, e _ _ e2 (ne_of e2 e3 (by intro z; cases z))⟩
section
variable {P : Program} {w : World} {K : PySem.W.Frag} {mg : Str → Option Value} {base : Heap}
def spShI (C : Addr) : Sp := fun vs H Q _ => ∃ (x dx : Addr) (u v : V), vs = [.ref x, u, v] ∧ H x = some (.ins C dx []) ∧ ∀ H', Ex H H' x → H' x = some (.ins C dx [("dims", u), ("attrs", v)]) → Q .non H'
theorem scShI : FnScope ["self", "dims", "attrs"] ["self", "dims", "attrs"] (defScope sShInit) := ⟨rfl, rfl, rfl, by decide +kernel, rfl, by decide +kernel, by decide +kernel⟩
theorem ok_shI {f C : Addr} {fd : FuncData} (F : Fun K "__init__" "Shape.__init__" sShInit f fd) (S : KC K C f SHf) : FnOk P w K mg base CX0 1 f fd ["self", "dims", "attrs"] (spShI C) := by
  refine F.ok scShI (fun vs H Q E h => ?_) (fun cdv A outer s H vs Q E hr h => ?_)
  · obtain ⟨x, dx, u, v, rfl, _⟩ := h
    rfl
  · obtain ⟨x, dx, u, v, rfl, hx, q⟩ := h
    refine ⟨_, pss_cons (ps_fld (pv 0) (pv 1) rfl) (pss_one (ps_fld (pv 0) (pv 2) rfl)), ?_⟩
    refine ⟨_, rfl, _, rfl, x, C, dx, [], rfl, hx, S.cl, S.na _ (by decide +kernel), (by decide), ?_⟩
    exact ⟨_, rfl, _, rfl, x, C, dx, [("dims", u)], rfl, upd_same, S.cl, S.na _ (by decide +kernel), (by show 1 < 1000; decide), q _ (fun a o e n => by rw [upd_ne n, upd_ne n]; exact e) upd_same⟩
theorem scRS : FnScope ["reader", "first", "dims", "attrs", "shape", "_"] ["reader"] (defScope sReadShape) := ⟨rfl, rfl, rfl, by decide +kernel, rfl, by decide +kernel, by decide +kernel⟩
end
end K2

/-! enumerate over a tuple -/
namespace K2
open PySem PySem.Spec PyProof.Rows L2
section
variable {prog : Program} {w : World} {A : Around} {E : Value → Shared → Prop} {s : Shared}
theorem enew1 {v : Value} {o : Obj} {Hh : Heap → Prop} (B : Begins v o Hh) : Meets (Builtin.«enumerate.__new__» ⟨[.type "enumerate", v], []⟩) (fun _ R s0 => Hh s0.heap ∧
    R (.ok (.ret (.ref (s0.heap.push o).objs.size))) { s0 with heap := (s0.heap.push o).push ⟨.type "enumerate", none, .fields #[.none, .bool false, .ref s0.heap.objs.size, rawInt 0, .none, .none], #[]⟩ }) := .of_wp fun pr w0 A0 R s0 z => by
  obtain ⟨z1, z2⟩ := z
  obtain ⟨hp, g, dd, tk, os⟩ := s0
  have sb := sub_enumerate
  have it1 : ∀ {A' : Around} {E' : Value → Shared → Prop} {Q' : Value → Shared → Prop}, Q' (.ref hp.objs.size) ⟨hp.push o, g, dd, tk, os⟩ → wpAny (model pr w0) A' (pyIter v) Q' E' ⟨hp, g, dd, tk, os⟩ := fun z3 => B.iter pr w0 _ _ ⟨hp, g, dd, tk, os⟩ _ z1 z3
  wp_walk using it1
  refine wpAny_stack_any fun _ => ?_
  refine wpAny_pure ?_
  split
  · rename_i c _ _ _ _ _
    cases (c == Value.type "enumerate") <;> (wp_walk using it1; exact ⟨_, rfl, z2⟩)
  · wp_walk using it1
    exact ⟨_, rfl, z2⟩
theorem ecall1 {v : Value} {o : Obj} {Hh : Heap → Prop} {Q : Value → Shared → Prop} (B : Begins v o Hh) (z1 : Hh s.heap)
    (z : ∀ h2, IsEnum h2 (s.heap.objs.size + 1) s.heap.objs.size 0 .none → h2.get? s.heap.objs.size = some o → (∀ b u, s.heap.get? b = some u → h2.get? b = some u) → Q (.ref (s.heap.objs.size + 1)) { s with heap := h2 }) :
    wpAny (model prog w) A (call (.type "enumerate") [v]) Q E s := by
  have sz : (s.heap.push o).objs.size = s.heap.objs.size + 1 := Heap.size_push ..
  refine callType_new F.called_enumerate (by decide) (F.typeCall_enumerate_1 _) (F.newCall_enumerate_1 _) (fun ob => F.args_object_init_2 ob _) F.entry_enumerate_new (enew1 B) ⟨z1, ?_⟩
  show _ ∧ _
  rw [sz]
  have en : IsEnum ((s.heap.push o).push ⟨.type "enumerate", none, .fields #[.none, .bool false, .ref s.heap.objs.size, rawInt 0, .none, .none], #[]⟩) (s.heap.objs.size + 1) s.heap.objs.size 0 .none := by
    have y := Heap.get?_push_size (s.heap.push o) (o := ⟨.type "enumerate", none, .fields #[.none, .bool false, .ref s.heap.objs.size, rawInt 0, .none, .none], #[]⟩) rfl
    rw [sz] at y
    exact y
  exact ⟨⟨_, en, rfl⟩, z _ en (Heap.get?_push_of_some _ (Heap.get?_push_size _ B.free)) fun b u y => Heap.get?_push_of_some _ (Heap.get?_push_of_some _ y)⟩
end
/-- the tuple at a, each item in a new pair with its number -/
def IteT (K : PySem.W.Frag) (a : Addr) (xs : List V) : It :=
  ⟨fun i H => SqT K H a xs ∧ i < xs.length, fun i H v H' => ∃ T x, v = .ref T ∧ H T = none ∧ H' = upd H T (.tup [.int (i : Nat), x]) ∧ xs[i]? = some x, fun i H => SqT K H a xs ∧ xs.length = i⟩
theorem tu_enumT {P : Program} {w : World} {K : PySem.W.Frag} {elts : List Expr} {kk : Nat} {tpos : Pos} (a e it : Addr) (xs : List V) :
    Turn P w K (.Tuple elts kk tpos) (IteT K a xs) [e, it] e (fun i h => (∃ old, IsEnum h e it ((i : Nat) : Int) old) ∧ h.IsTupleIter it a i ∧ e ≠ it) := by
  have apart : ∀ {h : Heap} {i : Nat} {old : Value} {its : Array Value}, IsEnum h e it (i : Int) old → h.IsTupleIter it a i → h.IsTuple a its → e ≠ a ∧ a ≠ it := by
    rintro h i old its q1 ⟨o, q2, q3, _⟩ ⟨o', q4, q5, _⟩
    refine ⟨fun z => ?_, fun z => ?_⟩
    · rw [← z, q1] at q4
      have y := Option.some.inj q4
      rw [← y] at q5
      exact absurd (Value.type.inj q5) (by decide)
    · rw [z, q2] at q4
      have y := Option.some.inj q4
      rw [← y, q3] at q5
      exact absurd (Value.type.inj q5) (by decide)
  refine ⟨by simp, ?_, ?_, ?_, ?_, ?_⟩
  · rintro i h ⟨⟨old, q1⟩, ⟨o, q2, q3, q4⟩, _⟩ b hb
    rcases List.mem_cons.mp hb with rfl | hb
    · exact ⟨_, q1, fun v z => nomatch z⟩
    · rw [List.mem_singleton.mp hb]
      exact ⟨o, q2, fun v z => by rw [q4] at z; cases z⟩
  · rintro i h h' ⟨⟨old, q1⟩, q2, q3⟩ k
    exact ⟨⟨old, k e (by simp) _ q1⟩, q2.at fun o q => k it (by simp) o q, q3⟩
  · intro X hP hw hK hc i pins s σ H E I hf st hg
    subst hP hw hK
    obtain ⟨⟨old, q1⟩, q2, ne⟩ := st
    obtain ⟨hq, hi⟩ := hg
    obtain ⟨its, rv, p, _⟩ := I.tuple hq
    have pt : s.heap.IsTuple a its.toArray := p
    obtain ⟨na, nt⟩ := apart q1 q2 pt
    have hi2 : i < its.toArray.size := by rw [List.size_toArray, ← rv.length]; exact hi
    obtain ⟨u, hu, ru⟩ := rv.get (List.getElem?_eq_getElem hi)
    have l1 : e < s.heap.objs.size := Heap.lt_size q1
    have l2 : it < s.heap.objs.size := by obtain ⟨_, q, _⟩ := q2; exact Heap.lt_size q
    refine wpAny_pyNext_enum_itemD (Draws.tuple (prog := X.prog) (w := X.w) (A := X.A.in1) (I.ok.hd hc) it a nt its.toArray) q1 ⟨q2, pt⟩ hi2 ne (by simp [ne, na]) fun x h2 tk hPx ho hst hT hsz hk => ?_
    have ex : x = u := by
      have y : its.toArray[i]? = some x := hPx
      rw [List.getElem?_toArray, hu] at y
      exact (Option.some.inj y).symm
    subst ex
    refine ⟨_, rfl, wpAny_letOwnedTupleGo_enum (s := { s with heap := h2, toks := tk + 1 }) ho fun h3 he3 sb => ?_⟩
    have hT3 : h3.get? s.heap.objs.size = some { cls := .type "tuple", data := .seq #[.int i tk, x] } := (sb.2 _ (Nat.ne_of_gt l1)).trans hT
    have sm3 : ∀ b ob, b ∉ [e, it] → s.heap.get? b = some ob → h3.get? b = some ob := fun b ob hb q => by
      have n1 : b ≠ e := fun z => hb (by simp [z])
      have n2 : b ≠ it := fun z => hb (by simp [z])
      exact (sb.2 b n1).trans (hk b ob n1 n2 q)
    have nw : ObjOk X.prog X.w (upd H s.heap.objs.size (.tup [.int (i : Nat), xs[i]])) h3 s.heap.objs.size (.tup [.int (i : Nat), xs[i]]) :=
      ⟨by show 2 ≤ sizeLine; decide, [.int i tk, x], .cons ⟨_, rfl⟩ (.cons ru .nil), _, hT3, rfl, _, rfl⟩
    have I3 := I.turnedNew (t' := tk + 1) (ch := [e, it]) sm3 hf (Nat.le_refl _) nw
    refine ⟨.ref s.heap.objs.size, _, I3, rfl, ⟨_, xs[i], rfl, I.hok.fresh (Nat.le_refl _), rfl, List.getElem?_eq_getElem hi⟩, ⟨⟨x, ?_⟩, hst.1.at fun o q => (sb.2 it ne.symm).trans q, ne⟩, fun b hb => ?_⟩
    · have y : ((i + 1 : Nat) : Int) = (i : Int) + 1 := by omega
      rw [y]
      exact he3
    · have lb : b < s.heap.objs.size := by
        rcases List.mem_cons.mp hb with rfl | hb
        · exact l1
        · rw [List.mem_singleton.mp hb]
          exact l2
      rw [upd_ne (Nat.ne_of_lt lb)]
      exact (hf b hb).1
  · intro X hP hw hK hc i pins s σ H E I hf st hg
    subst hP hw hK
    obtain ⟨⟨old, q1⟩, q2, ne⟩ := st
    obtain ⟨hq, hi⟩ := hg
    obtain ⟨its, rv, p, _⟩ := I.tuple hq
    have pt : s.heap.IsTuple a its.toArray := p
    obtain ⟨na, nt⟩ := apart q1 q2 pt
    obtain ⟨f0, f1, f2, f3, f4, f5⟩ := hf it (by simp)
    have hi2 : i = its.toArray.size := by rw [List.size_toArray, ← rv.length]; exact hi.symm
    subst hi2
    exact wpAny_pyNext_enum_endD (Draws.tuple (prog := X.prog) (w := X.w) (A := X.A.in1) (I.ok.hd hc) it a nt its.toArray) q1 ⟨q2, pt⟩ fun h2 eb => ⟨rfl, I.turned (t' := s.toks) (fun b o hb q => eb b o hb q) f0 f1 f3 f4 f5⟩
  · exact fun A i s Q E st h => let ⟨⟨_, q⟩, _⟩ := st; wpAny_pyIter_enum q h
def iEnumT (K : PySem.W.Frag) (ta : TA) : TI := fun σ H R => ta σ H fun vs H1 => ∃ a xs, vs = [.ref a] ∧ SqT K H1 a xs ∧ R (IteT K a xs) H1
theorem pi_enumT {X : Cx} {e : Expr} {ta : TA} {p pos tpos : Pos} {elts : List Expr} {kk : Nat} (hg : Gl X "enumerate") (hm : X.mg "enumerate" = none) (ha : PA X [e] ta) (hs : starEach [e] X.env = [(false, eval e X.env)] := by rfl) :
    PI X (.Tuple elts kk tpos) (.Call (.Name "enumerate" p) [e] [] pos) (iEnumT X.K ta) := by
  refine ⟨fun pins s σ H R I h => Call_ (ld_blt I hg hm boot_enumerate (PyProof.Rows.callWith_type1 (thn (ha.run pos pins s σ H _ I h) fun us s1 ⟨vs, H1, I1, r1, a, xs, ex, hq, q⟩ => ?_) hs rfl))⟩
  subst ex
  obtain ⟨its, rv, p', _⟩ := I1.tuple hq
  cases r1 with
  | cons r rr =>
    cases rr
    cases r
    refine ecall1 (begins_tuple a its.toArray) p' fun h2 he ht hk => wpAny_pyIter_enum he ?_
    refine ⟨s1.heap.objs.size + 1, [s1.heap.objs.size + 1, s1.heap.objs.size], _, _, H1, rfl, I1.kept (t' := s1.toks) hk, tu_enumT a (s1.heap.objs.size + 1) s1.heap.objs.size xs, ⟨⟨.none, he⟩, ⟨_, ht, rfl, rfl⟩, Nat.succ_ne_self _⟩, fun b hb => ?_, q⟩
    have lb : s1.heap.objs.size ≤ b := by
      rcases List.mem_cons.mp hb with rfl | hb
      · exact Nat.le_succ _
      · rw [List.mem_singleton.mp hb]
        exact Nat.le_refl _
    exact I1.fpOk lb (I1.hok.fresh lb)
theorem walk_enumT {K : PySem.W.Frag} {a : Addr} {xs : List V} : Walk (IteT K a xs) xs.length (fun H => SqT K H a xs) (YPair (fun i => some (.int (i : Nat))) (fun i => xs[i]?)) :=
  ⟨fun i _ hi q => ⟨q, hi⟩, fun _ q => ⟨q, rfl⟩, fun i H v H' _ q ⟨T, x, h1, h2, h3, h4⟩ => ⟨T, .int (i : Nat), x, h1, h2, h3, rfl, h4⟩⟩
end K2

namespace K2
open PySem PySem.Spec PyProof.Rows L2
/-- three comparisons in a row -/
def tChain3 (r1 r2 r3 : R2) (ta tb tc td : TE) : TE := fun σ H Q => ta σ H fun x H1 => tb σ H1 fun y H2 => r1 x y H2 fun z H3 => ∃ k, z = .bl k ∧
  (if k = true then tc σ H3 fun y2 H4 => r2 y y2 H4 fun z2 H5 => ∃ k2, z2 = .bl k2 ∧ (if k2 = true then td σ H5 fun y3 H6 => r3 y2 y3 H6 Q else Q (.bl false) H5) else Q (.bl false) H3)
section
variable {X : Cx} {a b c d : Expr} {ta tb tc td : TE} {pos : Pos}
theorem pe_chain3 {o1 o2 o3 : CmpOp} {r1 r2 r3 : R2} (h1 : OpR X (compareOp o1) r1) (h2 : OpR X (compareOp o2) r2) (h3 : OpR X (compareOp o3) r3) (ha : PE X a ta) (hb : PE X b tb) (hc : PE X c tc) (hd : PE X d td)
    (hm : lastMarks [o1, o2, o3] [b, c, d] = false := by with_unfolding_all rfl) : PE X (.Compare a [o1, o2, o3] [b, c, d] pos) (tChain3 r1 r2 r3 ta tb tc td) := by
  refine ⟨fun pins s σ H Q I h => Compare_chain (thn (ha.run pins s σ H _ I h) fun u1 s1 ⟨x1, H1, I1, q1, g1⟩ => chain_link (thn (hb.run pins s1 σ H1 _ I1 g1) fun u2 s2 ⟨x2, H2, I2, q2, g2⟩ =>
    thn (h1 pins s2 σ H2 x1 x2 u1 u2 _ I2 q1 q2 g2) fun u3 s3 ⟨x3, H3, I3, q3, k, e, g3⟩ => ?_)) hm⟩
  subst e
  cases q3
  refine wpAny_truthy_bool ?_
  cases k with
  | false => exact ite_ff ⟨.bl false, H3, I3, rfl, g3⟩
  | true =>
    refine ite_tt (chain_link (thn (hc.run pins s3 σ H3 _ I3 g3) fun u4 s4 ⟨x4, H4, I4, q4, g4⟩ => thn (h2 pins s4 σ H4 x2 x4 u2 u4 _ I4 q2 q4 g4) fun u5 s5 ⟨x5, H5, I5, q5, k2, e2, g5⟩ => ?_))
    subst e2
    cases q5
    refine wpAny_truthy_bool ?_
    cases k2 with
    | false => exact ite_ff ⟨.bl false, H5, I5, rfl, g5⟩
    | true => exact ite_tt (chain_last (thn (hd.run pins s5 σ H5 _ I5 g5) fun u6 s6 ⟨x6, H6, I6, q6, g6⟩ => h3 pins s6 σ H6 x4 x6 u4 u6 Q I6 q4 q6 g6))
end
/-- what stands at the right of an own == -/
inductive Oth (K : PySem.W.Frag) (H : Hp) (b : Addr) : Value → Prop where
  | ins {C dx : Addr} {fs : List (Str × V)} (e : H b = some (.ins C dx fs)) : Oth K H b (.ref C)
  | tup {xs : List V} (e : SqT K H b xs) : Oth K H b (.type "tuple")
def rOwnEq (K : PySem.W.Frag) (C : Addr) (sp : Sp) (E : XK) : R2 := fun x y H Q => ∃ (a dx : Addr) (fs : List (Str × V)) (b : Addr) (tb : Value), x = .ref a ∧ y = .ref b ∧ H a = some (.ins C dx fs) ∧ Oth K H b tb ∧ PySem.W.notFirst K C tb = true ∧ sp [x, y] H Q E
section
variable {X : Cx} {n : Nat} {C g : Addr} {sp : Sp} {CX : CXT} {E : XK} {fd : FuncData} {ps : List Str}
theorem op_owneq (hs : PySem.W.findIn X.K (.ref C) "__eq__" = some (some (.ref g))) (hf : PySem.W.isFn X.K (.ref g) = true) (F : FnOk X.prog X.w X.K X.mg X.base CX n g fd ps sp) (hb : Binds X.K fd ps [])
    (hr : Room n X.A) (hx : Passes CX X E) : OpR X (compareOp .Eq) (rOwnEq X.K C sp E) := by
  intro pins s σ H x y v u Q I rx ry h
  obtain ⟨a, dx, fs, b, tb, rfl, rfl, ha, ho, hn, q⟩ := h
  obtain rfl : v = Value.ref a := rx
  obtain rfl : u = Value.ref b := ry
  obtain ⟨_, J, _⟩ := ins_get I.hok ha
  obtain ⟨_, J, _⟩ := J.look
  obtain ⟨_, hF⟩ := I.fr
  have lk : PySem.W.Looks (model X.prog X.w) s.heap (typeOf (.ref b)) tb := by
    cases ho with
    | ins e =>
      obtain ⟨_, J2, _⟩ := ins_get I.hok e
      obtain ⟨_, J2, _⟩ := J2.look
      exact J2.type
    | tup e =>
      obtain ⟨_, _, ⟨o, e1, e2, _⟩, _⟩ := I.tuple e
      exact e2 ▸ (PySem.W.Looks.ld e1).andThen .now
  refine PySem.W.cmp_K (op := .Eq) (tb := tb) hr.units0 hF I.ok.mod.kin J lk hn hs hf ?_
  have F2 : FnR X.prog X.w X.K X.mg X.base CX n g sp := (FnOk.raw F hb .nil).imp fun vs H Q E h => by
    rw [List.append_nil]
    exact h
  refine wpAny_mono (wpAny_call (run_fnR (us := [.ref a, .ref b]) (vs := [.ref a, .ref b]) F2 hr hx I (.cons rfl (.cons rfl .nil)) q)) (fun w s' z => ?_) fun _ _ x => x
  obtain ⟨z', H', I', rz, qz⟩ := z
  exact SlX.cmpback rz ⟨z', H', I', rz, qz⟩
end
end K2

namespace K2
open PySem L2
theorem same_err' {H H3 : Hp} {e dx : Addr} {o1 o2 o3 o4 o5 : HO} (sm : Same H H3) (ne : H3 e = none) (nx : H3 dx = none) : Same H (upd (del (upd (upd (upd (upd H3 e o1) dx o2) e o3) dx o4) e) dx o5) := same_err sm ne nx
/-- the reading of a raise of an own class -/
theorem rz {K : PySem.W.Frag} {C fI : Addr} {nm : Str} (T : ErrC K C fI nm) {v : V} {H : Hp} {P : XK} (k : ∀ d H', Same H H' → H' d = some (.xd [("name", .str nm), ("place", v)]) → P (.ref C) (some d) H') :
    [v].length ≤ 1000 ∧ ∀ a, H a = none → spInit K fI (.ref a :: ([v] ++ [])) (upd H a (exo a C none)) (fun u H2 => u = .non ∧ ∃ (d : Addr) (fs : List (Str × V)), H2 a = some (exo a C (some d)) ∧ H2 d = some (exd d fs) ∧ H d = none ∧ P (.ref C) (some d) (upd (del H2 a) d (.xd fs))) (fun _ _ _ => False) := by
  refine ⟨(by show 1 ≤ 1000; decide), fun e ne => ⟨e, C, nm, v, rfl, T, upd_same, fun dx ndx nde => ⟨rfl, dx, [("name", .str nm), ("place", v)], ?_, upd_same, ?_, ?_⟩⟩⟩
  · rw [upd_ne nde.symm, upd_same]
  · rw [upd_ne nde] at ndx
    exact ndx
  · rw [upd_ne nde] at ndx
    exact k dx _ (same_err (Same.refl H) ne ndx) upd_same
theorem Ex.put {H H1 : Hp} {r D : Addr} {o : HO} (x : Ex H H1 r) (n : H D = none) : Ex H (upd H1 D o) r := fun a u e na => by
  rw [upd_ne (fun z => by rw [z, n] at e; cases e)]
  exact x a u e na
theorem RdAt.put {CO : Addr} {H H1 : Hp} {r lo D : Addr} {os : List Int} {n m : Nat} {o : HO} (rd : RdAt CO H r lo os n) (h : RdAt CO H1 r lo os m) (nD : H D = none) : RdAt CO (upd H1 D o) r lo os m := by
  obtain ⟨dx, e⟩ := h.i
  obtain ⟨dx0, e0⟩ := rd.i
  exact ⟨⟨dx, by rw [upd_ne (ne_of_none e0 nD)]; exact e⟩, by rw [upd_ne (ne_of_none rd.o nD)]; exact h.o, h.le⟩
theorem rd_ne {CO : Addr} {H : Hp} {r lo D : Addr} {os : List Int} {n : Nat} (rd : RdAt CO H r lo os n) (nD : H D = none) : D ≠ r := by
  obtain ⟨dx, e⟩ := rd.i
  exact (ne_of_none e nD).symm
theorem Ex.free {CO : Addr} {H H1 : Hp} {r lo : Addr} {os : List Int} {n : Nat} (x : Ex H H1 r) (rd : RdAt CO H1 r lo os n) {t : Addr} (h : H1 t = none) : H t = none := by
  cases e : H t with
  | none => rfl
  | some o =>
    have nr : t ≠ r := fun z => by
      obtain ⟨dx, e1⟩ := rd.i
      rw [z, e1] at h
      cases h
    rw [x t o e nr] at h
    cases h
/-- tuples stay -/
def Kp (H H1 : Hp) : Prop := ∀ b xs, H b = some (.tup xs) → H1 b = some (.tup xs)
theorem Ex.kp {CO : Addr} {H H1 : Hp} {r lo : Addr} {os : List Int} {n : Nat} (x : Ex H H1 r) (rd : RdAt CO H r lo os n) : Kp H H1 := fun b xs e => by
  obtain ⟨dx, e1⟩ := rd.i
  exact x _ _ e (ne_of e e1 (by intro z; cases z))
theorem kp_put {H H1 : Hp} {D : Addr} {ys : List V} {o : HO} (k : Kp H H1) (h : H1 D = some (.lst ys)) : Kp H (upd H1 D o) := fun b xs e => by
  have := k b xs e
  rw [upd_ne (fun z => by rw [z, h] at this; cases this)]
  exact this
theorem rep_len {α : Type} {p : List α → Nat → Re α} : ∀ {k n : Nat} {l : List α} {m : Nat}, rep p k n = .ok (l, m) → l.length = k
  | 0, n, l, m, h => by
    injection h with h
    injection h with h1 h2
    rw [← h1]
    rfl
  | k + 1, n, l, m, h => by
    unfold rep at h
    cases e : rep p k n with
    | error x => rw [bd_err e] at h; cases h
    | ok x =>
      obtain ⟨l1, m1⟩ := x
      rw [bd_ok e] at h
      have ih := rep_len e
      cases e2 : p l1 m1 with
      | error x => rw [bd_err e2] at h; cases h
      | ok y =>
        obtain ⟨a, j⟩ := y
        rw [bd_ok e2] at h
        injection h with h
        injection h with h1 h2
        rw [← h1, List.length_append, ih]
        rfl
theorem rep_succ {α : Type} {p : List α → Nat → Re α} {i n m : Nat} {l : List α} (e : rep p i n = .ok (l, m)) : rep p (i + 1) n = bd (p l m) fun a j => .ok (l ++ [a], j) := by
  show bd (rep p i n) _ = _
  rw [bd_ok e]
/-- a list of what a reader finds, one after another -/
theorem rep_lc {α : Type} {R : Hp → V → α → Prop} {p : List Int → Nat → Re α} {CO CT CD r lo D : Addr} {os : List Int} {E : XK} {te : TE} {σ : St} {vs : List Nat} {H : Hp} {n k j : Nat} {Qd : Hp → Prop}
    (rd : RdAt CO H r lo os n) (nD : H D = none) (hk : k ≤ 900) (mon : ∀ H1 H2 v a, Kp H1 H2 → R H1 v a → R H2 v a)
    (hw : ∀ x, wipe ((wipe σ vs).set j (some x)) vs = wipe σ vs)
    (hel : ∀ x H2 Q m, RdAt CO H2 r lo os m → Pst CO CT CD H2 r lo os (p os m) R Q E → te ((wipe σ vs).set j (some x)) H2 Q)
    (bad : ∀ t i, rep (fun _ => p os) k n = .error (t, i) → ∀ H' d, Ex H H' r → H' d = some (erD t i) → E (.ref (if t then CT else CD)) (some d) H')
    (good : ∀ l m H' xs, rep (fun _ => p os) k n = .ok (l, m) → Ex H H' r → RdAt CO H' r lo os m → H' D = some (.lst xs) → All (R H') xs l → Qd H') :
    ∃ W : Nat → Nat → Hp → Prop, (∃ m, W 0 m (upd H D (.lst []))) ∧ ∀ i m H, W i m H →
      ((Itr 0 k).stop i H ∧ Qd H) ∨ ((Itr 0 k).go i H ∧ ∃ Nx : Hp → Prop, (∀ H', Nx H' → ∃ m', m' < m ∧ W (i + 1) m' H') ∧ ∀ x H', (Itr 0 k).yld i H x H' → gName j x (wipe σ vs) H' fun σ2 H2 => wipe σ2 vs = wipe σ vs ∧ tYes σ2 H2 fun b H3 =>
        if b = true then te σ2 H3 fun y H4 => ∃ acc, H4 D = some (.lst acc) ∧ acc.length < sizeLine ∧ Nx (upd H4 D (.lst (acc ++ [y]))) else Nx H3) := by
  have nDr := rd_ne rd nD
  refine lc_range (lo := 0) (n := k) (fun i H2 => ∃ l m xs, rep (fun _ => p os) i n = .ok (l, m) ∧ Ex H H2 r ∧ RdAt CO H2 r lo os m ∧ H2 D = some (.lst xs) ∧ All (R H2) xs l) ?_ ?_ ?_
  · exact ⟨[], n, [], rfl, Same.ex (same_new nD), rd.same (same_new nD), upd_same, All.nil⟩
  · rintro i H2 hi ⟨l, m, xs, er, ex, rd2, eD, al⟩
    refine ⟨hw _, ?_⟩
    dsimp only [tYes]
    rw [if_pos rfl]
    refine hel _ H2 _ m rd2 ⟨fun a j e H' v x2 rd3 rl => ?_, fun t ii e H' d x2 hd => ?_⟩
    · have eD' := x2 _ _ eD nDr
      have xl := al.1
      rw [rep_len er] at xl
      have kp : Kp H2 (upd H' D (.lst (xs ++ [v]))) := kp_put (x2.kp rd2) eD'
      refine ⟨xs, eD', small1000 (by omega), l ++ [a], j, xs ++ [v], ?_, (ex.trans x2).put nD, RdAt.put rd rd3 nD, upd_same, All.push (al.imp fun y b h => mon _ _ _ _ kp h) (mon _ _ _ _ (kp_put (fun b xs e => e) eD') rl)⟩
      rw [rep_succ er, bd_ok e]
    · exact bad t ii (rep_err (Nat.succ_le_of_lt hi) (by rw [rep_succ er, bd_err e])) H' d (ex.trans x2) hd
  · rintro H2 ⟨l, m, xs, er, ex, rd2, eD, al⟩
    exact good l m H2 xs er ex rd2 eD al
structure Ct5 (mg : Str → Option Value) : Prop where
  md : ∃ v, mg "MOST_DIMS" = some v ∧ RelV (.int 6) v
  ma : ∃ v, mg "MOST_ATTRS" = some v ∧ RelV (.int 16) v
  fu : ∃ v, mg "FURTHEST" = some v ∧ RelV (.int 1000000) v
  st : ∃ v, mg "LONGEST_STEP" = some v ∧ RelV (.int 1000000) v
theorem flat_strs (ls : List Str) : (ls.map V.str).all flatV = true := by
  rw [List.all_eq_true]
  intro x hx
  obtain ⟨i, _, rfl⟩ := List.mem_map.mp hx
  rfl
theorem inV_str (o : Str) (ls : List Str) : inV (.str o) (ls.map V.str) = decide (o ∈ ls) := by
  unfold inV
  rw [Bool.eq_iff_iff, List.any_eq_true, decide_eq_true_eq]
  constructor
  · rintro ⟨x, hx, e⟩
    obtain ⟨i, hi, rfl⟩ := List.mem_map.mp hx
    have e2 : (i == o) = true ∨ (o == i) = true := by first | exact .inl e | exact .inr e
    rcases e2 with z | z
    · rw [← eq_of_beq z]; exact hi
    · rw [eq_of_beq z]; exact hi
  · intro h
    exact ⟨.str o, List.mem_map.mpr ⟨o, h, rfl⟩, by show (o == o) = true; exact beq_self_eq_true o⟩
section
variable {P : Program} {w : World} {K : PySem.W.Frag} {mg : Str → Option Value} {base : Heap}
def spIsDim : Sp := fun vs H Q _ => ∃ (a : Addr) (d : D), vs = [.ref a] ∧ H a = some (.tup d.v) ∧ d.n.length ≤ 1000 ∧ Q (.bl (okD d)) H
theorem scIsDim : FnScope ["dim", "name", "low", "high", "step"] ["dim"] (defScope sIsDim) := ⟨rfl, rfl, rfl, by decide +kernel, rfl, by decide +kernel, by decide +kernel⟩
theorem ok_isDim {f fS : Addr} {fd fdS : FuncData} (F : Fun K "is_dim" "is_dim" sIsDim f fd) (N : Ct5 mg) (GS : FnOk P w K mg base CX0 1 fS fdS ["text"] spSimple) (kS : PySem.W.keepIn K (.ref fS) = true) (bS : Binds K fdS ["text"] []) (gS : mg "is_simple_name" = some (.ref fS)) :
    FnOk P w K mg base CX0 2 f fd ["dim"] spIsDim := by
  refine F.ok scIsDim (fun vs H Q E h => ?_) (fun cdv A outer s H vs Q E hr h => ?_)
  · obtain ⟨a, d, rfl, _⟩ := h
    rfl
  · obtain ⟨a, d, rfl, ha, hn, q⟩ := h
    obtain ⟨u1, m1, r1⟩ := N.fu
    obtain ⟨u2, m2, r2⟩ := N.st
    refine ⟨_, pss_cons (ps_asg (pv 0) (pg_tup (by rfl) (pgs_cons (pg_name (i := 1) scIsDim.nd rfl (.inl rfl)) (pgs_cons (pg_name (i := 2) scIsDim.nd rfl (.inl rfl)) (pgs_cons (pg_name (i := 3) scIsDim.nd rfl (.inl rfl)) (pgs_cons (pg_name (i := 4) scIsDim.nd rfl (.inl rfl)) pgs_nil))))))
      (pss_one (ps_ret (pe_and (pe_call GS hr (by rfl) gS kS bS .nil pass0 (pa_cons (pv 1) pa_nil)) (pe_and (pe_chain3 op_le op_le op_le (pe_un un_neg (pe_glob (by rfl) m1 r1)) (pv 2) (pv 3) (pe_glob (by rfl) m1 r1)) (pe_one (pe_chain op_le op_le pe_int (pv 4) (pe_glob (by rfl) m2 r2))))))), ?_⟩
    refine ⟨_, rfl, a, d.v, rfl, SqT.of ha, rfl, _, _, rfl, _, _, rfl, _, _, rfl, _, _, rfl, rfl, ?_⟩
    refine ⟨_, rfl, d.n, rfl, hn, _, rfl, ?_⟩
    have to : ∀ {b : Bool}, okD d = b → Q (.bl b) H := fun e => by rw [← e]; exact q
    cases hs : simp d.n
    · exact iteF (to (by unfold okD; rw [hs]; rfl))
    refine iteT ⟨1000000, rfl, _, rfl, -1000000, d.l, rfl, rfl, _, rfl, ?_⟩
    cases h1 : decide (-1000000 ≤ d.l)
    · exact iteF ⟨_, rfl, iteF (to (by unfold okD; rw [h1]; simp))⟩
    refine iteT ⟨_, rfl, d.l, d.h, rfl, rfl, _, rfl, ?_⟩
    cases h2 : decide (d.l ≤ d.h)
    · exact iteF ⟨_, rfl, iteF (to (by unfold okD; rw [h2]; simp))⟩
    refine iteT ⟨d.h, 1000000, rfl, rfl, _, rfl, ?_⟩
    cases h3 : decide (d.h ≤ 1000000)
    · exact iteF (to (by unfold okD; rw [h3]; simp))
    refine iteT ⟨_, rfl, 1, d.s, rfl, rfl, _, rfl, ?_⟩
    cases h4 : decide (1 ≤ d.s)
    · exact iteF (to (by unfold okD; rw [h4]; simp))
    exact iteT ⟨d.s, 1000000, rfl, rfl, to (by unfold okD; rw [hs, h1, h2, h3, h4]; rfl)⟩
def spIsAttr : Sp := fun vs H Q _ => ∃ (a : Addr) (d : T), vs = [.ref a] ∧ H a = some (.tup d.v) ∧ d.n.length ≤ 1000 ∧ Q (.bl (okT d)) H
theorem scIsAttr : FnScope ["attr", "name", "kind"] ["attr"] (defScope sIsAttr) := ⟨rfl, rfl, rfl, by decide +kernel, rfl, by decide +kernel, by decide +kernel⟩
theorem ok_isAttr {f fS : Addr} {fd fdS : FuncData} (F : Fun K "is_attr" "is_attr" sIsAttr f fd) (Z : Ct2 K mg) (GS : FnOk P w K mg base CX0 1 fS fdS ["text"] spSimple) (kS : PySem.W.keepIn K (.ref fS) = true) (bS : Binds K fdS ["text"] []) (gS : mg "is_simple_name" = some (.ref fS)) :
    FnOk P w K mg base CX0 2 f fd ["attr"] spIsAttr := by
  refine F.ok scIsAttr (fun vs H Q E h => ?_) (fun cdv A outer s H vs Q E hr h => ?_)
  · obtain ⟨a, d, rfl, _⟩ := h
    rfl
  · obtain ⟨a, d, rfl, ha, hn, q⟩ := h
    obtain ⟨kk, mk, hk, _⟩ := Z.kinds
    refine ⟨_, pss_cons (ps_asg (pv 0) (pg_tup (by rfl) (pgs_cons (pg_name (i := 1) scIsAttr.nd rfl (.inl rfl)) (pgs_cons (pg_name (i := 2) scIsAttr.nd rfl (.inl rfl)) pgs_nil))))
      (pss_one (ps_ret (pe_and (pe_call GS hr (by rfl) gS kS bS .nil pass0 (pa_cons (pv 1) pa_nil)) (pe_one (pe_cmpR op_in_seq (pv 2) (pe_glob (v := .ref kk) (by rfl) mk rfl) (by rfl)))))), ?_⟩
    refine ⟨_, rfl, a, d.v, rfl, SqT.of ha, rfl, _, _, rfl, _, _, rfl, rfl, ?_⟩
    refine ⟨_, rfl, d.n, rfl, hn, _, rfl, ?_⟩
    have to : ∀ {b : Bool}, okT d = b → Q (.bl b) H := fun e => by rw [← e]; exact q
    cases hs : simp d.n
    · exact iteF (to (by unfold okT; rw [hs]; rfl))
    refine iteT ⟨_, rfl, kk, _, rfl, .inr (hk _), rfl, flat_strs _, ?_⟩
    rw [inV_str]
    exact to (by unfold okT; rw [hs, Bool.true_and]; rfl)
end
end K2

namespace K2
open PySem L2
section
variable {P : Program} {w : World} {K : PySem.W.Frag} {mg : Str → Option Value} {base : Heap}
def dI (ds : List D) : List (Str × Bool) := ds.map fun d => (d.n, okD d)
def tI' (ts : List T) : List (Str × Bool) := ts.map fun t => (t.n, okT t)
theorem chk_of {ds : List D} {ts : List T} (h1 : 1 ≤ ds.length ∧ ds.length ≤ 6) (h2 : 1 ≤ ts.length ∧ ts.length ≤ 16) : chk ds ts = names [] (dI ds ++ tI' ts) := by
  unfold chk
  rw [decide_eq_true h1, decide_eq_true h2]
  rfl
def spCheck (C CI : Addr) : Sp := fun vs H Q E => ∃ (v : V) (ds : List D) (ts : List T), vs = [v] ∧ ShAt H C v ds ts ∧ (∀ d ∈ ds, d.n.length ≤ 1000) ∧ (∀ t ∈ ts, t.n.length ≤ 1000) ∧
  (chk ds ts = true → ∀ H', Same H H' → Q .non H') ∧ (chk ds ts = false → ∀ H' d, Same H H' → E (.ref CI) (some d) H')
theorem scCheck : FnScope ["shape", "names", "index", "dim", "attr"] ["shape"] (defScope sCheckShape) := ⟨rfl, rfl, rfl, by decide +kernel, rfl, by decide +kernel, by decide +kernel⟩
theorem ok_check {f fD fA fI fE C CI : Addr} {fd fdD fdA fdE : FuncData} (F : Fun K "check_shape" "check_shape" sCheckShape f fd) (M : Nm mg) (N : Ct5 mg) (S : KC K C fI SHf) (GD : FnOk P w K mg base CX0 2 fD fdD ["dim"] spIsDim) (kD : PySem.W.keepIn K (.ref fD) = true) (bD : Binds K fdD ["dim"] []) (gD : mg "is_dim" = some (.ref fD))
    (GA : FnOk P w K mg base CX0 2 fA fdA ["attr"] spIsAttr) (kA : PySem.W.keepIn K (.ref fA) = true) (bA : Binds K fdA ["attr"] []) (gA : mg "is_attr" = some (.ref fA))
    (FE : Fun K "__init__" "ManysidesError.__init__" sInit fE fdE) (bE : Binds K fdE ["self", "place"] []) (T : ErrC K CI fE "InvalidShape") (gE : mg "InvalidShape" = some (.ref CI)) : FnOk P w K mg base (L2N.CX P w) 3 f fd ["shape"] (spCheck C CI) := by
  have GI : FnOk P w K mg base CX0 1 fE fdE ["self", "place"] (spInit K fE) := ok_init FE
  refine F.okN scCheck (fun vs H Q E h => ?_) (fun cdv A outer s H vs Q E hr h => ?_)
  · obtain ⟨v, ds, ts, rfl, _⟩ := h
    rfl
  · obtain ⟨v, ds, ts, rfl, ⟨a, dx, v1, v2, rfl, ha, ⟨td, xs, rfl, htd, had⟩, ⟨ta, ys, rfl, hta, hat⟩⟩, ld, lt, q, qe⟩ := h
    obtain ⟨u1, m1, r1⟩ := N.md
    obtain ⟨u2, m2, r2⟩ := N.ma
    refine ⟨_, pss_cons (ps_if (PW.pt (pw_or (pt_not (pt_chain op_le op_le pe_int (pe_callB call_len_seq (by rfl) M.len PySem.boot_len (pa_cons (pe_fld (pv 0) rfl) pa_nil)) (pe_glob (by rfl) m1 r1)))
          (pw_or1 (pt_not (pt_chain op_le op_le pe_int (pe_callB call_len_seq (by rfl) M.len PySem.boot_len (pa_cons (pe_fld (pv 0) rfl) pa_nil)) (pe_glob (by rfl) m2 r2)))))) (pss_one (L2N.ps_raise rfl (L2N.takes_of rfl rfl rfl rfl) (pmk_oexN T.oc T.iC T.tI GI hr bE pass0 (by rfl) gE (pa_cons pe_int pa_nil)))) pss_nil)
      (pss_cons (ps_set (i := 1) scCheck.nd rfl (.inl rfl) (pe_lst pa_nil))
      (Evl.pss_cut (ps_for (passes_of rfl) rfl (pi_enumT (by rfl) M.enumerate (pa_cons (pe_fld (pv 0) rfl) pa_nil)) (pg_tup (by rfl) (pgs_cons (pg_name (i := 2) scCheck.nd rfl (.inl rfl)) (pgs_cons (pg_name (i := 3) scCheck.nd rfl (.inl rfl)) pgs_nil)))
        (pss_cons (ps_if (PW.pt (pw_or (pt_not (pt_val (pe_call GD hr (by rfl) gD kD bD .nil pass0 (pa_cons (pv 3) pa_nil)))) (pw_or1 (pt_cmpR op_in_seq (pe_ix ix_tup (pv 3) pe_int (fun _ _ => rfl)) (pv 1) (by rfl))))) (pss_one (L2N.ps_raise rfl (L2N.takes_of rfl rfl rfl rfl) (pmk_oexN T.oc T.iC T.tI GI hr bE pass0 (by rfl) gE (pa_cons (pv 2) pa_nil)))) pss_nil)
        (pss_one (ps_expr (pe_bm PySem.F.plainAttrs_list PySem.F.slot_list_append PySem.F.type_list_append mt_append (pv 1) (pa_cons (pe_ix ix_tup (pv 3) pe_int (fun _ _ => rfl)) pa_nil))))))
      (pss_one (ps_for (passes_of rfl) rfl (pi_enumT (by rfl) M.enumerate (pa_cons (pe_fld (pv 0) rfl) pa_nil)) (pg_tup (by rfl) (pgs_cons (pg_name (i := 2) scCheck.nd rfl (.inl rfl)) (pgs_cons (pg_name (i := 4) scCheck.nd rfl (.inl rfl)) pgs_nil)))
        (pss_cons (ps_if (PW.pt (pw_or (pt_not (pt_val (pe_call GA hr (by rfl) gA kA bA .nil pass0 (pa_cons (pv 4) pa_nil)))) (pw_or1 (pt_cmpR op_in_seq (pe_ix ix_tup (pv 4) pe_int (fun _ _ => rfl)) (pv 1) (by rfl))))) (pss_one (L2N.ps_raise rfl (L2N.takes_of rfl rfl rfl rfl) (pmk_oexN T.oc T.iC T.tI GI hr bE pass0 (by rfl) gE (pa_cons (pe_op op_add (pe_callB call_len_seq (by rfl) M.len PySem.boot_len (pa_cons (pe_fld (pv 0) rfl) pa_nil)) (pv 2)) pa_nil)))) pss_nil)
        (pss_one (ps_expr (pe_bm PySem.F.plainAttrs_list PySem.F.slot_list_append PySem.F.type_list_append mt_append (pv 1) (pa_cons (pe_ix ix_tup (pv 4) pe_int (fun _ _ => rfl)) pa_nil))))))))), ?_⟩
    have hxl := had.1
    have hyl := hat.1
    have n1 : NoAttr K C "dims" := S.na _ (by decide +kernel)
    have n2 : NoAttr K C "attrs" := S.na _ (by decide +kernel)
    refine ⟨_, rfl, a, C, dx, _, .ref td, rfl, ha, S.cl, n1, rfl, td, xs, rfl, .inr (SqT.of htd), 1, (xs.length : Int), rfl, rfl, _, rfl, ?_⟩
    have badD : ¬ (1 ≤ ds.length ∧ ds.length ≤ 6) → chk ds ts = false := fun h => by unfold chk; rw [decide_eq_false h]; rfl
    have badT : ¬ (1 ≤ ts.length ∧ ts.length ≤ 16) → chk ds ts = false := fun h => by unfold chk; rw [decide_eq_false h]; simp
    by_cases c1 : (1 : Int) ≤ (xs.length : Int)
    case neg => exact iteBF (decide_eq_false c1) ⟨false, rfl, iteT (rz T fun d H' s _ => qe (badD fun z => c1 (by omega)) H' d s)⟩
    refine iteB (decide_eq_true c1) ⟨(xs.length : Int), 6, rfl, rfl, _, rfl, ?_⟩
    by_cases c2 : (xs.length : Int) ≤ 6
    case neg => exact iteB (by rw [decide_eq_false c2]; rfl) (rz T fun d H' s _ => qe (badD fun z => c2 (by omega)) H' d s)
    refine iteBF (by rw [decide_eq_true c2]; rfl) ?_
    refine ⟨_, rfl, a, C, dx, _, .ref ta, rfl, ha, S.cl, n2, rfl, ta, ys, rfl, .inr (SqT.of hta), 1, (ys.length : Int), rfl, rfl, _, rfl, ?_⟩
    by_cases c3 : (1 : Int) ≤ (ys.length : Int)
    case neg => exact iteBF (decide_eq_false c3) ⟨false, rfl, iteT (rz T fun d H' s _ => qe (badT fun z => c3 (by omega)) H' d s)⟩
    refine iteB (decide_eq_true c3) ⟨(ys.length : Int), 16, rfl, rfl, _, rfl, ?_⟩
    by_cases c4 : (ys.length : Int) ≤ 16
    case neg => exact iteB (by rw [decide_eq_false c4]; rfl) (rz T fun d H' s _ => qe (badT fun z => c4 (by omega)) H' d s)
    refine iteBF (by rw [decide_eq_true c4]; rfl) ?_
    have ce : chk ds ts = names [] (dI ds ++ tI' ts) := chk_of (by omega) (by omega)
    rw [ce] at q qe
    refine ⟨Nat.zero_le _, fun nl nn => ?_⟩
    refine ⟨fun σ H2 => ∃ y2 y3, σ = [some (.ref a), some (.ref nl), y2, y3, none] ∧ Same H H2 ∧ H2 nl = some (.lst ((ds.map (·.n)).map V.str)) ∧ names [] (dI ds ++ tI' ts) = names (ds.map (·.n)) (tI' ts), ?_, ?_⟩
    · refine ⟨_, rfl, a, C, dx, _, .ref td, rfl, same_new nn _ _ ha, S.cl, n1, rfl, td, xs, rfl, SqT.of (same_new nn _ _ htd), ?_⟩
      refine for_it (walk_enumT (xs := xs)) (fun i σ H2 => ∃ y2 y3, σ = [some (.ref a), some (.ref nl), y2, y3, none] ∧ Same H H2 ∧ H2 nl = some (.lst (((ds.take i).map (·.n)).map V.str)) ∧ names [] (dI ds ++ tI' ts) = names ((ds.take i).map (·.n)) (dI (ds.drop i) ++ tI' ts)) ⟨_, _, rfl, same_new nn, upd_same, rfl⟩ ?_ ?_ ?_
      · rintro i σ H2 hi ⟨y2, y3, rfl, s2, _⟩
        exact SqT.of (s2 _ _ htd)
      · rintro i x σ H2 H' hi ⟨y2, y3, rfl, s2, hn, hN⟩ ⟨Tp, x1, x2, rfl, nT, rfl, f1, f2⟩
        obtain rfl : x1 = .int (i : Int) := (Option.some.inj f1).symm
        rw [hxl] at hi
        obtain ⟨b, rfl, hb⟩ := had.at hi f2
        have s3 : Same H2 (upd H2 Tp (.tup [.int (i : Int), .ref b])) := same_new nT
        have hb3 := s3 _ _ (s2 _ _ hb)
        have hn3 := s3 _ _ hn
        have s03 := s2.trans s3
        have step : names [] (dI ds ++ tI' ts) = (okD ds[i] && decide (ds[i].n ∉ (ds.take i).map (·.n)) && names ((ds.take (i + 1)).map (·.n)) (dI (ds.drop (i + 1)) ++ tI' ts)) := by
          rw [hN, List.drop_eq_getElem_cons hi, List.take_add_one, List.getElem?_eq_getElem hi, List.map_append]
          rfl
        refine ⟨Tp, _, rfl, .inl (.inl upd_same), rfl, _, _, rfl, _, _, rfl, rfl, ?_⟩
        refine ⟨_, rfl, b, ds[i], rfl, hb3, ld _ (List.getElem_mem hi), okD ds[i], rfl, ?_⟩
        cases hok : okD ds[i] with
        | false => exact iteT ⟨_, rfl, rz T fun d H' s _ => qe (by rw [step, hok]; rfl) H' d (s03.trans s)⟩
        | true =>
          refine iteF ⟨_, rfl, b, _, 0, .str ds[i].n, rfl, rfl, SqT.of hb3, rfl, _, rfl, nl, _, rfl, .inl (.inl (.inl hn3)), rfl, flat_strs _, _, rfl, ?_⟩
          rw [inV_str]
          by_cases hno : ds[i].n ∈ (ds.take i).map (·.n)
          · exact iteB (decide_eq_true hno) ⟨_, rfl, rz T fun d H' s _ => qe (by rw [step, hok, decide_eq_false (fun z => z hno)]; rfl) H' d (s03.trans s)⟩
          refine iteBF (decide_eq_false hno) ?_
          rw [hok, decide_eq_true hno] at step
          refine ⟨_, rfl, .inl ⟨rfl, _, .inl (.inl hn3)⟩, _, rfl, b, _, 0, .str ds[i].n, rfl, rfl, SqT.of hb3, rfl, nl, _, _, rfl, rfl, hn3, ?_, _, _, rfl, fun z o e => ?_, ?_, step⟩
          · rw [List.length_map, List.length_map, List.length_take]
            exact small1000 (by omega)
          · rw [upd_ne (fun y => by rw [y, nn] at e; cases e)]
            exact s3 _ _ (s2 _ _ e)
          · rw [upd_same, List.take_add_one, List.getElem?_eq_getElem hi, List.map_append, List.map_append]
            rfl
      · rintro σ H2 ⟨y2, y3, rfl, s2, hn, hN⟩
        rw [hxl, List.take_length] at hn hN
        rw [List.drop_length] at hN
        exact ⟨_, _, rfl, s2, hn, hN⟩
    · rintro σ H2 ⟨y2, y3, rfl, s2, hn, hN0⟩
      rw [hN0] at q qe
      refine ⟨_, rfl, a, C, dx, _, .ref ta, rfl, s2 _ _ ha, S.cl, n2, rfl, ta, ys, rfl, SqT.of (s2 _ _ hta), ?_⟩
      refine for_it (walk_enumT (xs := ys)) (fun i σ H2 => ∃ y2 y4, σ = [some (.ref a), some (.ref nl), y2, y3, y4] ∧ Same H H2 ∧ H2 nl = some (.lst ((ds.map (·.n) ++ (ts.take i).map (·.n)).map V.str)) ∧ names (ds.map (·.n)) (tI' ts) = names (ds.map (·.n) ++ (ts.take i).map (·.n)) (tI' (ts.drop i))) ⟨_, _, rfl, s2, by rw [List.take_zero, List.map_nil, List.append_nil]; exact hn, by rw [List.take_zero, List.map_nil, List.append_nil]; rfl⟩ ?_ ?_ ?_
      · rintro i σ H2 hi ⟨y2, y4, rfl, s2, _⟩
        exact SqT.of (s2 _ _ hta)
      · rintro i x σ H2 H' hi ⟨y2, y4, rfl, s2, hn, hN⟩ ⟨Tp, x1, x2, rfl, nT, rfl, f1, f2⟩
        obtain rfl : x1 = .int (i : Int) := (Option.some.inj f1).symm
        rw [hyl] at hi
        obtain ⟨b, rfl, hb⟩ := hat.at hi f2
        have s3 : Same H2 (upd H2 Tp (.tup [.int (i : Int), .ref b])) := same_new nT
        have hb3 := s3 _ _ (s2 _ _ hb)
        have hn3 := s3 _ _ hn
        have s03 := s2.trans s3
        have step : names (ds.map (·.n)) (tI' ts) = (okT ts[i] && decide (ts[i].n ∉ ds.map (·.n) ++ (ts.take i).map (·.n)) && names (ds.map (·.n) ++ (ts.take (i + 1)).map (·.n)) (tI' (ts.drop (i + 1)))) := by
          rw [hN, List.drop_eq_getElem_cons hi, List.take_add_one, List.getElem?_eq_getElem hi, List.map_append (l₁ := ts.take i), ← List.append_assoc]
          rfl
        refine ⟨Tp, _, rfl, .inl (.inl upd_same), rfl, _, _, rfl, _, _, rfl, rfl, ?_⟩
        refine ⟨_, rfl, b, ts[i], rfl, hb3, lt _ (List.getElem_mem hi), okT ts[i], rfl, ?_⟩
        have rd : ∀ (hbad : names (ds.map (·.n)) (tI' ts) = false), _ := fun hbad => rz (v := .int ((xs.length : Int) + (i : Int))) (P := E) T fun d H' s _ => qe hbad H' d (s03.trans s)
        cases hok : okT ts[i] with
        | false => exact iteT ⟨_, rfl, a, C, dx, _, .ref td, rfl, s03 _ _ ha, S.cl, n1, rfl, td, xs, rfl, .inr (SqT.of (s03 _ _ htd)), _, rfl, _, _, rfl, rfl, rd (by rw [step, hok]; rfl)⟩
        | true =>
          refine iteF ⟨_, rfl, b, _, 0, .str ts[i].n, rfl, rfl, SqT.of hb3, rfl, _, rfl, nl, _, rfl, .inl (.inl (.inl hn3)), rfl, flat_strs _, _, rfl, ?_⟩
          rw [inV_str]
          by_cases hno : ts[i].n ∈ ds.map (·.n) ++ (ts.take i).map (·.n)
          · exact iteB (decide_eq_true hno) ⟨_, rfl, a, C, dx, _, .ref td, rfl, s03 _ _ ha, S.cl, n1, rfl, td, xs, rfl, .inr (SqT.of (s03 _ _ htd)), _, rfl, _, _, rfl, rfl, rd (by rw [step, hok, decide_eq_false (fun z => z hno)]; rfl)⟩
          refine iteBF (decide_eq_false hno) ?_
          rw [hok, decide_eq_true hno] at step
          refine ⟨_, rfl, .inl ⟨rfl, _, .inl (.inl hn3)⟩, _, rfl, b, _, 0, .str ts[i].n, rfl, rfl, SqT.of hb3, rfl, nl, _, _, rfl, rfl, hn3, ?_, _, _, rfl, fun z o e => ?_, ?_, step⟩
          · rw [List.length_map, List.length_append, List.length_map, List.length_map, List.length_take]
            exact small1000 (by omega)
          · rw [upd_ne (fun y => by rw [y, nn] at e; cases e)]
            exact s3 _ _ (s2 _ _ e)
          · rw [upd_same, List.take_add_one, List.getElem?_eq_getElem hi, List.map_append (l₁ := ts.take i), ← List.append_assoc]
            simp only [List.map_append]
            rfl
      · rintro σ H2 ⟨y2, y4, rfl, s2, hn, hN⟩
        rw [hyl, List.drop_length] at hN
        exact q (by rw [hN]; rfl) _ s2
end
end K2

namespace K2
open PySem L2
/-- the reader's methods -/
structure RFX (P : Program) (w : World) (K : PySem.W.Frag) (mg : Str → Option Value) (base : Heap) (CO CT CD : Addr) where
  (fI fN fO f4 fi : Addr)
  (dN dO d4 di : FuncData)
  T : KC K CO fI ORf
  Z : EF P w K mg base CT CD
  GN : FnOk P w K mg base (L2.CX P w) 3 fN dN ["self", "count"] (spNX CO CT CD)
  bN : Binds K dN ["self", "count"] []
  mN : Meth K CO "next_octets" fN
  GO : FnOk P w K mg base (L2.CX P w) 4 fO dO ["self", "allowed"] (spOX K CO CT CD)
  bO : Binds K dO ["self", "allowed"] []
  mO : Meth K CO "next_octet_of" fO
  G4 : FnOk P w K mg base (L2.CX P w) 4 f4 d4 ["self"] (spP CO CT CD RInt p4)
  b4 : Binds K d4 ["self"] []
  m4 : Meth K CO "next_four" f4
  Gi : FnOk P w K mg base (L2.CX P w) 5 fi di ["self", "least", "greatest"] (spIX CO CT CD)
  bi : Binds K di ["self", "least", "greatest"] []
  mi : Meth K CO "next_four_in" fi
  GH : L2H.FnH P w K mg base CX0 1 Z.fE Z.dE ["self", "place"] (spInit K Z.fE)
def RStr : Hp → V → Str → Prop := fun _ v a => v = .str a
theorem p1_tk {os : List Int} {n m : Nat} {o : Int} (h : tk 1 os n = .ok ([o], m)) : p1 os n = .ok (o, m) := by unfold p1; rw [h]; rfl
theorem p1_bad {os : List Int} {n : Nat} {e : Bool × Nat} (h : tk 1 os n = .error e) : p1 os n = .error e := by unfold p1; rw [h]; rfl
section
variable {P : Program} {w : World} {K : PySem.W.Frag} {mg : Str → Option Value} {base : Heap}
theorem scRN : FnScope ["reader", "first", "octets", "name"] ["reader"] (defScope sReadName) := ⟨rfl, rfl, rfl, by decide +kernel, rfl, by decide +kernel, by decide +kernel⟩
theorem ok_rn {f fD fS CO CT CD CI : Addr} {fd fdD fdS : FuncData} (F : Fun K "read_name" "read_name" sReadName f fd) (Z : RFX P w K mg base CO CT CD) (GD : FnOk P w K mg base (L2N.CX P w) 3 fD fdD ["octets"] (spDec CI)) (kD : PySem.W.keepIn K (.ref fD) = true) (bD : Binds K fdD ["octets"] []) (gD : mg "decode_text" = some (.ref fD))
    (GS : FnOk P w K mg base CX0 1 fS fdS ["text"] spSimple) (kS : PySem.W.keepIn K (.ref fS) = true) (bS : Binds K fdS ["text"] []) (gS : mg "is_simple_name" = some (.ref fS)) (gI : mg "InvalidText" = some (.ref CI)) (ex : PySem.W.exmOne K (.ref CI) (.ref CI) = some true) :
    FnOk P w K mg base (L2.CX P w) 4 f fd ["reader"] (spP CO CT CD RStr pname) := by
  have GN := Z.GN
  have T := Z.T
  have GE := Z.Z.GE
  have GH := Z.GH
  refine F.okX scRN (fun vs H Q E h => ?_) (fun cdv A outer s H vs Q E hr h => ?_)
  · obtain ⟨r, lo, os, n, rfl, _⟩ := h
    rfl
  · obtain ⟨r, lo, os, n, rfl, rd, O, q⟩ := h
    have hr1 := hr.mono (j := 1) (by decide)
    have hr2 := hr.mono (j := 2) (by decide)
    refine ⟨_, pss_cons (ps_set (i := 1) scRN.nd rfl (.inl rfl) (pe_fld (pv 0) rfl))
      (pss_cons (ps_set (i := 2) scRN.nd rfl (.inl rfl) (pe_methX (pv 0) T.cl Z.mN GN hr Z.bN (fun σ => passAt (takes_of rfl rfl rfl rfl) σ) (pa_cons (pe_ix ix_list (pe_methX (pv 0) T.cl Z.mN GN hr Z.bN (fun σ => passAt (takes_of rfl rfl rfl rfl) σ) (pa_cons pe_int pa_nil)) pe_int (fun _ _ => rfl)) pa_nil)))
      (pss_cons (L2H.ps_try_onlyX rfl rfl ⟨rfl, by decide, .inl gI⟩ (fun hd => L2H.passesAt_of rfl hd) (takes_of rfl rfl rfl rfl)
        (fun W pn xe tk tk2 po => pss_one (ps_set (i := 3) scRN.nd rfl (.inl rfl) (pe_callS GD hr (by rfl) gD kD bD (fun σ => L2N.passAt tk σ) (pa_cons (pv 2) pa_nil))))
        (fun a oe cls d pn hz hf tk hot => pss_one (L2H.ps_raiseHN hot tk (L2H.pmk5_oexH Z.Z.D.oc Z.Z.D.iC Z.Z.D.tI GH (L2H.roomH_mark hr2 _) hot Z.Z.bE pass0 (by rfl) Z.Z.gD (pa_cons (pv 1) pa_nil)))))
      (pss_cons (ps_if (pt_not (pt_val (pe_call GS hr1 (by rfl) gS kS bS .nil pass0 (pa_cons (pv 3) pa_nil)))) (pss_one (ps_raise rfl (takes_of rfl rfl rfl rfl) (pmk_oex Z.Z.D.oc Z.Z.D.iC Z.Z.D.tI GE hr2 Z.Z.bE .nil pass0 (by rfl) Z.Z.gD (pa_cons (pv 1) pa_nil)))) pss_nil)
      (pss_one (ps_ret (pv 3)))))), ?_⟩
    obtain ⟨dx, e⟩ := rd.i
    have q0 : Pst CO CT CD H r lo os (bd (p1 os n) fun k m => bd (tk k.toNat os m) fun xs j => if nmOk xs = true then .ok (txt xs, j) else .error (false, n)) RStr Q E := q
    refine ⟨_, rfl, r, CO, dx, _, .int (n : Int), rfl, e, T.cl, T.na _ (by decide +kernel), rfl, ?_⟩
    refine ⟨_, rfl, r, dx, _, rfl, e, rfl, _, rfl, r, dx, _, rfl, e, rfl, r, lo, os, n, 1, rfl, rd, ⟨fun xs m et H1 v x1 rd1 rl => ?_, fun t i et H' d ex hd => q0.bad (p1_bad et) ex hd⟩⟩
    obtain ⟨p1', rfl, e1⟩ := rl
    obtain ⟨xl, xm⟩ := tk_len et
    match xs, xl with
    | [k], _ =>
      have q1 := q0.next (p1_tk et) x1
      have k0 := O.o k (xm k (by simp))
      have hk : (k.toNat : Int) = k := Int.toNat_of_nonneg k0.1
      refine ⟨p1', _, 0, .int k, rfl, rfl, .inl (.inl e1), rfl, ?_⟩
      refine ⟨r, lo, os, m, k.toNat, by rw [hk], rd1, ⟨fun ys j et2 H2 v2 x2 rd2 rl2 => ?_, fun t i et2 H' d ex hd => q1.bad et2 ex hd⟩⟩
      obtain ⟨p2, rfl, e2⟩ := rl2
      have q2 := q1.next et2 x2
      obtain ⟨yl, ym⟩ := tk_len et2
      have yo : ∀ o ∈ ys, 0 ≤ o ∧ o ≤ 255 := fun o ho => O.o o (ym o ho)
      refine ⟨_, rfl, p2, ys, rfl, e2, by omega, fun hok H3 s3 => ?_, fun hbad H3 d s3 => ?_⟩
      · refine ⟨_, rfl, txt ys, rfl, by rw [txt_len]; omega, _, rfl, ?_⟩
        rw [nmOk_simp] at q2
        cases hs : simp (txt ys) with
        | true =>
          rw [hs] at q2
          exact iteF ⟨_, rfl, q2.ok _ _ (if_pos rfl) H3 _ (Same.ex s3) (rd2.same s3) rfl⟩
        | false =>
          rw [hs] at q2
          exact iteT ⟨_, rfl, rz Z.Z.D fun d H' s hd => q2.no false n (if_neg (by decide)) H' d (Same.ex (s3.trans s)) hd⟩
      · rw [nmOk_bad yo hbad] at q2
        refine ⟨true, ex, fun _ a na => ⟨_, rfl, rz Z.Z.D fun d H' s hd => q2.no false n (if_neg (by decide)) H' d (Same.ex (s3.trans s)) hd⟩, fun z => by cases z⟩
end
end K2

namespace K2
open PySem L2
theorem bd_inv {α β : Type} {x : Re α} {f : α → Nat → Re β} {b : β} {m : Nat} (h : bd x f = .ok (b, m)) : ∃ a j, x = .ok (a, j) ∧ f a j = .ok (b, m) := by
  cases x with
  | error e => cases h
  | ok y => exact ⟨y.1, y.2, rfl, h⟩
theorem simp_len {z : Str} (h : simp z = true) : z.length ≤ 30 := by
  unfold simp at h
  rw [Bool.and_eq_true, Bool.and_eq_true] at h
  have := of_decide_eq_true h.1.2
  omega
theorem pname_ok {os : List Int} {n m : Nat} {s : Str} (h : pname os n = .ok (s, m)) : simp s = true ∧ n < m ∧ m ≤ os.length := by
  obtain ⟨k, j, e1, h⟩ := bd_inv h
  obtain ⟨xs, j2, e2, h⟩ := bd_inv h
  by_cases c : nmOk xs = true
  · rw [if_pos c] at h
    injection h with h
    injection h with h1 h2
    subst h1 h2
    rw [nmOk_simp] at c
    obtain ⟨a1, a2, _⟩ := p1_ok e1
    obtain ⟨b1, _, b3⟩ := tk_ok e2
    exact ⟨c, by omega, by omega⟩
  · rw [if_neg c] at h
    cases h
theorem pof_ok {ls os : List Int} {n m : Nat} {o : Int} (h : pof ls os n = .ok (o, m)) : o ∈ ls ∧ n < m ∧ m ≤ os.length := by
  obtain ⟨k, j, e1, h⟩ := bd_inv h
  obtain ⟨a1, a2, _⟩ := p1_ok e1
  by_cases c : k ∈ ls
  · rw [if_pos c] at h
    injection h with h
    injection h with h1 h2
    subst h1 h2
    exact ⟨c, by omega, by omega⟩
  · rw [if_neg c] at h
    cases h
theorem rep_all {α : Type} {p : List α → Nat → Re α} {Pr : α → Prop} (hp : ∀ l n a m, p l n = .ok (a, m) → Pr a) : ∀ {k n : Nat} {l : List α} {m : Nat}, rep p k n = .ok (l, m) → ∀ a ∈ l, Pr a
  | 0, n, l, m, h, a, ha => by
    injection h with h
    injection h with h1 h2
    rw [← h1] at ha
    cases ha
  | k + 1, n, l, m, h, a, ha => by
    obtain ⟨l1, m1, e1, h⟩ := bd_inv h
    obtain ⟨b, j, e2, h⟩ := bd_inv h
    injection h with h
    injection h with h1 h2
    rw [← h1] at ha
    rcases List.mem_append.mp ha with z | z
    · exact rep_all hp e1 a z
    · rw [List.mem_singleton.mp z]
      exact hp _ _ _ _ e2
theorem pdim_ok {os : List Int} {n m : Nat} {d : D} (h : pdim os n = .ok (d, m)) : d.n.length ≤ 1000 := by
  obtain ⟨s, j, e1, h⟩ := bd_inv h
  obtain ⟨_, _, _, h⟩ := bd_inv h
  obtain ⟨_, _, _, h⟩ := bd_inv h
  obtain ⟨_, _, _, h⟩ := bd_inv h
  injection h with h
  injection h with h1 h2
  rw [← h1]
  have := simp_len (pname_ok e1).1
  show s.length ≤ 1000
  omega
theorem pattr_ok {os : List Int} {n m : Nat} {d : T} (h : pattr os n = .ok (d, m)) : d.n.length ≤ 1000 := by
  obtain ⟨s, j, e1, h⟩ := bd_inv h
  obtain ⟨_, _, _, h⟩ := bd_inv h
  injection h with h
  injection h with h1 h2
  rw [← h1]
  have := simp_len (pname_ok e1).1
  show s.length ≤ 1000
  omega
def RDi : Hp → V → D → Prop := fun H v d => RowAt H d.v v
def RAt' : Hp → V → T → Prop := fun H v d => RowAt H d.v v
theorem RowAt.kp {H H1 : Hp} {t : List V} {x : V} (h : RowAt H t x) (k : Kp H H1) : RowAt H1 t x := let ⟨a, e1, e2⟩ := h; ⟨a, e1, k _ _ e2⟩
section
variable {P : Program} {w : World} {K : PySem.W.Frag} {mg : Str → Option Value} {base : Heap}
theorem scRDm : FnScope ["reader", "name", "low", "high"] ["reader"] (defScope sReadDim) := ⟨rfl, rfl, rfl, by decide +kernel, rfl, by decide +kernel, by decide +kernel⟩
theorem ok_rdm {f fM CO CT CD : Addr} {fd fdM : FuncData} (F : Fun K "read_dim" "read_dim" sReadDim f fd) (Z : RFX P w K mg base CO CT CD) (Y : Ct2 K mg) (GM : FnOk P w K mg base (L2.CX P w) 4 fM fdM ["reader"] (spP CO CT CD RStr pname)) (kM : PySem.W.keepIn K (.ref fM) = true) (bM : Binds K fdM ["reader"] []) (gM : mg "read_name" = some (.ref fM)) :
    FnOk P w K mg base (L2.CX P w) 5 f fd ["reader"] (spP CO CT CD RDi pdim) := by
  have G4 := Z.G4
  have T := Z.T
  refine F.okX scRDm (fun vs H Q E h => ?_) (fun cdv A outer s H vs Q E hr h => ?_)
  · obtain ⟨r, lo, os, n, rfl, _⟩ := h
    rfl
  · obtain ⟨r, lo, os, n, rfl, rd, O, q⟩ := h
    obtain ⟨lv, ml, rl⟩ := Y.lift
    refine ⟨_, pss_cons (ps_set (i := 1) scRDm.nd rfl (.inl rfl) (pe_callS GM hr (by rfl) gM kM bM (fun σ => passAt (takes_of rfl rfl rfl rfl) σ) (pa_cons (pv 0) pa_nil)))
      (pss_cons (ps_set (i := 2) scRDm.nd rfl (.inl rfl) (pe_op op_sub (pe_methX0 (pv 0) T.cl Z.m4 G4 hr Z.b4 (fun σ => passAt (takes_of rfl rfl rfl rfl) σ)) (pe_glob (by rfl) ml rl)))
      (pss_cons (ps_set (i := 3) scRDm.nd rfl (.inl rfl) (pe_op op_sub (pe_methX0 (pv 0) T.cl Z.m4 G4 hr Z.b4 (fun σ => passAt (takes_of rfl rfl rfl rfl) σ)) (pe_glob (by rfl) ml rl)))
      (pss_one (ps_ret (pe_tup (pa_cons (pv 1) (pa_cons (pv 2) (pa_cons (pv 3) (pa_cons (pe_methX0 (pv 0) T.cl Z.m4 G4 hr Z.b4 (fun σ => passAt (takes_of rfl rfl rfl rfl) σ)) pa_nil))))))))), ?_⟩
    have q0 : Pst CO CT CD H r lo os (bd (pname os n) fun s m => bd (p4 os m) fun l m => bd (p4 os m) fun h m => bd (p4 os m) fun st m => .ok (⟨s, l - 2147483648, h - 2147483648, st⟩, m)) RDi Q E := q
    refine ⟨_, rfl, r, lo, os, n, rfl, rd, O, ⟨fun s m es H1 v1 x1 rd1 rl1 => ?_, fun t i et H' d ex hd => q0.bad et ex hd⟩⟩
    obtain rfl : v1 = .str s := rl1
    have q1 := q0.next es x1
    obtain ⟨dx1, e1⟩ := rd1.i
    refine ⟨_, rfl, r, dx1, _, rfl, e1, rfl, r, lo, os, m, rfl, rd1, O, ⟨fun l m2 el H2 v2 x2 rd2 rl2 => ?_, fun t i et H' d ex hd => q1.bad et ex hd⟩⟩
    obtain rfl : v2 = .int l := rl2
    have q2 := q1.next el x2
    obtain ⟨dx2, e2⟩ := rd2.i
    refine ⟨_, _, rfl, rfl, _, rfl, r, dx2, _, rfl, e2, rfl, r, lo, os, m2, rfl, rd2, O, ⟨fun h m3 eh H3 v3 x3 rd3 rl3 => ?_, fun t i et H' d ex hd => q2.bad et ex hd⟩⟩
    obtain rfl : v3 = .int h := rl3
    have q3 := q2.next eh x3
    obtain ⟨dx3, e3⟩ := rd3.i
    refine ⟨_, _, rfl, rfl, _, rfl, _, rfl, _, rfl, _, rfl, r, dx3, _, rfl, e3, rfl, r, lo, os, m3, rfl, rd3, O, ⟨fun st m4 est H4 v4 x4 rd4 rl4 => ⟨(by show 4 ≤ sizeLine; decide), fun t nt => ?_⟩, fun t i et H' d ex hd => q3.bad et ex hd⟩⟩
    obtain rfl : v4 = .int st := rl4
    have q4 := q3.next est x4
    exact q4.ok _ _ rfl _ _ (Same.ex (same_new nt)) (rd4.same (same_new nt)) ⟨t, rfl, upd_same⟩
theorem scRA : FnScope ["reader", "name"] ["reader"] (defScope sReadAttr) := ⟨rfl, rfl, rfl, by decide +kernel, rfl, by decide +kernel, by decide +kernel⟩
theorem ks_atI {k : Int} (h : k ∈ [(0 : Int), 1, 2]) : atI (KS.map V.str) k = some (.str (KS.getD k.toNat "")) := by
  rcases List.mem_cons.mp h with rfl | h
  · exact atI_nat (j := 0) rfl
  rcases List.mem_cons.mp h with rfl | h
  · exact atI_nat (j := 1) rfl
  rcases List.mem_cons.mp h with rfl | h
  · exact atI_nat (j := 2) rfl
  cases h
theorem ok_ra {f fM CO CT CD : Addr} {fd fdM : FuncData} (F : Fun K "read_attr" "read_attr" sReadAttr f fd) (Z : RFX P w K mg base CO CT CD) (Y : Ct2 K mg) (GM : FnOk P w K mg base (L2.CX P w) 4 fM fdM ["reader"] (spP CO CT CD RStr pname)) (kM : PySem.W.keepIn K (.ref fM) = true) (bM : Binds K fdM ["reader"] []) (gM : mg "read_name" = some (.ref fM)) :
    FnOk P w K mg base (L2.CX P w) 5 f fd ["reader"] (spP CO CT CD RAt' pattr) := by
  have GO := Z.GO
  have T := Z.T
  refine F.okX scRA (fun vs H Q E h => ?_) (fun cdv A outer s H vs Q E hr h => ?_)
  · obtain ⟨r, lo, os, n, rfl, _⟩ := h
    rfl
  · obtain ⟨r, lo, os, n, rfl, rd, O, q⟩ := h
    obtain ⟨kk, mk, hk, _⟩ := Y.kinds
    refine ⟨_, pss_cons (ps_set (i := 1) scRA.nd rfl (.inl rfl) (pe_callS GM hr (by rfl) gM kM bM (fun σ => passAt (takes_of rfl rfl rfl rfl) σ) (pa_cons (pv 0) pa_nil)))
      (pss_one (ps_ret (pe_tup (pa_cons (pv 1) (pa_cons (pe_ix ix_tup (pe_glob (v := .ref kk) (by rfl) mk rfl) (pe_methX (pv 0) T.cl Z.mO GO hr Z.bO (fun σ => passAt (takes_of rfl rfl rfl rfl) σ) (pa_cons (pe_tup (pa_cons pe_int (pa_cons pe_int (pa_cons pe_int pa_nil)))) pa_nil)) (fun _ _ => rfl)) pa_nil))))), ?_⟩
    have q0 : Pst CO CT CD H r lo os (bd (pname os n) fun s m => bd (pof [0, 1, 2] os m) fun k m => .ok (⟨s, KS.getD k.toNat ""⟩, m)) RAt' Q E := q
    refine ⟨_, rfl, r, lo, os, n, rfl, rd, O, ⟨fun s m es H1 v1 x1 rd1 rl1 => ?_, fun t i et H' d ex hd => q0.bad et ex hd⟩⟩
    obtain rfl : v1 = .str s := rl1
    have q1 := q0.next es x1
    obtain ⟨dx1, e1⟩ := rd1.i
    refine ⟨_, rfl, _, rfl, r, dx1, _, rfl, e1, rfl, (by show 3 ≤ sizeLine; decide), fun a na => ?_⟩
    have nar : a ≠ r := rd_ne rd1 na
    have sa := same_new (o := .tup [.int 0, .int 1, .int 2]) na
    refine ⟨r, lo, a, os, [0, 1, 2], m, rfl, rd1.same sa, fun H2 x2 => SqT.of (x2 _ _ upd_same nar), ⟨fun k m2 ek H2 v2 x2 rd2 rl2 => ?_, fun t i et H' d ex hd => q1.bad et ((Same.ex sa).trans ex) hd⟩⟩
    obtain rfl : v2 = .int k := rl2
    have q2 := q1.next ek ((Same.ex sa).trans x2)
    refine ⟨kk, _, _, .str (KS.getD k.toNat ""), rfl, rfl, hk _, ks_atI (pof_ok ek).1, (by show 2 ≤ sizeLine; decide), fun t nt => ?_⟩
    exact q2.ok _ _ rfl _ _ (Same.ex (same_new nt)) (rd2.same (same_new nt)) ⟨t, rfl, upd_same⟩
def RSp (C : Addr) : Hp → V → List D × List T → Prop := fun H v x => ShAt H C v x.1 x.2
theorem ok_rs {f fI fM fA fK CO CT CD C CI : Addr} {fd fdI fdM fdA fdK : FuncData} (F : Fun K "read_shape" "read_shape" sReadShape f fd) (M : Nm mg) (Z : RFX P w K mg base CO CT CD) (S : KC K C fI SHf) (GI : FnOk P w K mg base CX0 1 fI fdI ["self", "dims", "attrs"] (spShI C)) (bI : Binds K fdI ["self", "dims", "attrs"] []) (gC : mg "Shape" = some (.ref C))
    (GM : FnOk P w K mg base (L2.CX P w) 5 fM fdM ["reader"] (spP CO CT CD RDi pdim)) (kM : PySem.W.keepIn K (.ref fM) = true) (bM : Binds K fdM ["reader"] []) (gM : mg "read_dim" = some (.ref fM))
    (GA : FnOk P w K mg base (L2.CX P w) 5 fA fdA ["reader"] (spP CO CT CD RAt' pattr)) (kA : PySem.W.keepIn K (.ref fA) = true) (bA : Binds K fdA ["reader"] []) (gA : mg "read_attr" = some (.ref fA))
    (GK : FnOk P w K mg base (L2N.CX P w) 3 fK fdK ["shape"] (spCheck C CI)) (kK : PySem.W.keepIn K (.ref fK) = true) (bK : Binds K fdK ["shape"] []) (gK : mg "check_shape" = some (.ref fK)) (gI : mg "InvalidShape" = some (.ref CI)) (ex : PySem.W.exmOne K (.ref CI) (.ref CI) = some true) :
    FnOk P w K mg base (L2.CX P w) 6 f fd ["reader"] (spP CO CT CD (RSp C) pshape) := by
  have GN := Z.GN
  have T := Z.T
  have GH := Z.GH
  refine F.okX scRS (fun vs H Q E h => ?_) (fun cdv A outer s H vs Q E hr h => ?_)
  · obtain ⟨r, lo, os, n, rfl, _⟩ := h
    rfl
  · obtain ⟨r, lo, os, n, rfl, rd, O, q⟩ := h
    have hr2 := hr.mono (j := 2) (by decide)
    have hr3 := hr.mono (j := 3) (by decide)
    refine ⟨_, pss_cons (ps_set (i := 1) scRS.nd rfl (.inl rfl) (pe_fld (pv 0) rfl))
      (Evl.pss_cut (ps_setLcX (i := 2) (own := [("_", 5)]) (g := gName 5) (tt := tYes) rfl rfl (takes_of rfl rfl rfl rfl) rfl scRS.nd rfl rfl (sw_true rfl rfl rfl (by decide +kernel)) (pi_range1 (by rfl) M.range (pa_cons (pe_ix ix_list (pe_methX (pv 0) T.cl Z.mN GN hr3 Z.bN (fun σ => passAt (takes_of rfl rfl rfl rfl) σ) (pa_cons pe_int pa_nil)) pe_int (fun _ _ => rfl)) pa_nil))
          (blkOk_by (N := ["reader", "first", "dims", "attrs", "shape", "_"]) (sc := defScope sReadShape) (by decide +kernel)) (fun _ _ _ _ _ _ => pg_name (i := 5) scRS.nd rfl (Or.inl rfl)) (fun _ _ _ _ _ _ => pts_nil) (fun E _ _ _ _ _ => pe_callS GM hr (by rfl) gM kM bM (fun σ => pass_blk σ) (pa_cons (pv 0) pa_nil)))
      (Evl.pss_cut (ps_setLcX (i := 3) (own := [("_", 5)]) (g := gName 5) (tt := tYes) rfl rfl (takes_of rfl rfl rfl rfl) rfl scRS.nd rfl rfl (sw_true rfl rfl rfl (by decide +kernel)) (pi_range1 (by rfl) M.range (pa_cons (pe_ix ix_list (pe_methX (pv 0) T.cl Z.mN GN hr3 Z.bN (fun σ => passAt (takes_of rfl rfl rfl rfl) σ) (pa_cons pe_int pa_nil)) pe_int (fun _ _ => rfl)) pa_nil))
          (blkOk_by (N := ["reader", "first", "dims", "attrs", "shape", "_"]) (sc := defScope sReadShape) (by decide +kernel)) (fun _ _ _ _ _ _ => pg_name (i := 5) scRS.nd rfl (Or.inl rfl)) (fun _ _ _ _ _ _ => pts_nil) (fun E _ _ _ _ _ => pe_callS GA hr (by rfl) gA kA bA (fun σ => pass_blk σ) (pa_cons (pv 0) pa_nil)))
      (pss_cons (ps_set (i := 4) scRS.nd rfl (.inl rfl) (pe_make S.mkC GI hr2 (by rfl) gC bI .nil pass0 (pa_cons (pe_callTy call_tuple_of (by rfl) M.tuple (by decide +kernel) (pa_cons (pv 2) pa_nil)) (pa_cons (pe_callTy call_tuple_of (by rfl) M.tuple (by decide +kernel) (pa_cons (pv 3) pa_nil)) pa_nil))))
      (pss_cons (L2H.ps_try_onlyX rfl rfl ⟨rfl, by decide, .inl gI⟩ (fun hd => L2H.passesAt_of rfl hd) (takes_of rfl rfl rfl rfl)
        (fun W pn xe tk tk2 po => pss_one (ps_expr (pe_callS GK hr3 (by rfl) gK kK bK (fun σ => L2N.passAt tk σ) (pa_cons (pv 4) pa_nil))))
        (fun a oe cls d pn hz hf tk hot => pss_one (L2H.ps_raiseHN hot tk (L2H.pmk5_oexH Z.Z.D.oc Z.Z.D.iC Z.Z.D.tI GH (L2H.roomH_mark hr2 _) hot Z.Z.bE pass0 (by rfl) Z.Z.gD (pa_cons (pv 1) pa_nil)))))
      (pss_one (ps_ret (pv 4))))))), ?_⟩
    obtain ⟨dx, e⟩ := rd.i
    have q0 : Pst CO CT CD H r lo os (bd (p1 os n) fun a m => bd (rep (fun _ => pdim os) a.toNat m) fun ds m => bd (p1 os m) fun b m => bd (rep (fun _ => pattr os) b.toNat m) fun ts m => if chk ds ts = true then .ok ((ds, ts), m) else .error (false, n)) (RSp C) Q E := q
    refine ⟨_, rfl, r, CO, dx, _, .int (n : Int), rfl, e, T.cl, T.na _ (by decide +kernel), rfl, ?_⟩
    refine ⟨fun σ H2 => ∃ p xs k j ds m, σ = [some (.ref r), some (.int (n : Int)), some (.ref p), none, none, none] ∧ p1 os n = .ok (k, j) ∧ rep (fun _ => pdim os) k.toNat j = .ok (ds, m) ∧ Ex H H2 r ∧ RdAt CO H2 r lo os m ∧ p ≠ r ∧ H2 p = some (.lst xs) ∧ All (RDi H2) xs ds, ?_, ?_⟩
    · refine ⟨_, rfl, r, dx, _, rfl, e, rfl, r, lo, os, n, 1, rfl, rd, ⟨fun xs m et H1 v x1 rd1 rl => ?_, fun t i et H' d ex hd => q0.bad (p1_bad et) ex hd⟩⟩
      obtain ⟨p1', rfl, e1⟩ := rl
      obtain ⟨xl, xm⟩ := tk_len et
      match xs, xl with
      | [k], _ =>
        have ek := p1_tk et
        have q1 := q0.next ek x1
        have k0 := O.o k (xm k (by simp))
        refine ⟨p1', _, 0, .int k, rfl, rfl, .inl (.inl e1), rfl, ?_⟩
        refine ⟨k, rfl, by omega, by omega, fun D nD => ?_⟩
        exact rep_lc (R := RDi) rd1 nD (by omega) (fun _ _ _ _ kp h => RowAt.kp h kp) (fun _ => rfl) (fun x H2 Q m rd2 ps => ⟨_, rfl, r, lo, os, m, rfl, rd2, O, ps⟩) (fun t i er H' d x2 hd => q1.bad er x2 hd)
          (fun ds m2 H2 xs er x2 rd2 eD al => ⟨D, xs, k, m, ds, m2, rfl, ek, er, x1.trans x2, rd2, rd_ne rd1 nD, eD, al⟩)
    rintro σ H2 ⟨p, xs, k, j, ds, m, rfl, ek, er, x2, rd2, npr, ep, al⟩
    have q2 := (q0.next ek (Same.ex (Same.refl H))).next er x2
    obtain ⟨dx2, e2⟩ := rd2.i
    refine ⟨fun σ H3 => ∃ p2 ys k2 j2 ts m3, σ = [some (.ref r), some (.int (n : Int)), some (.ref p), some (.ref p2), none, none] ∧ p1 os m = .ok (k2, j2) ∧ rep (fun _ => pattr os) k2.toNat j2 = .ok (ts, m3) ∧ Ex H2 H3 r ∧ RdAt CO H3 r lo os m3 ∧ H3 p2 = some (.lst ys) ∧ All (RAt' H3) ys ts, ?_, ?_⟩
    · refine ⟨_, rfl, r, dx2, _, rfl, e2, rfl, r, lo, os, m, 1, rfl, rd2, ⟨fun xs2 m2 et H1 v x1 rd1 rl => ?_, fun t i et H' d ex hd => q2.bad (p1_bad et) ex hd⟩⟩
      obtain ⟨p1', rfl, e1⟩ := rl
      obtain ⟨xl, xm⟩ := tk_len et
      match xs2, xl with
      | [k2], _ =>
        have ek2 := p1_tk et
        have q3 := q2.next ek2 x1
        have k0 := O.o k2 (xm k2 (by simp))
        refine ⟨p1', _, 0, .int k2, rfl, rfl, .inl (.inl e1), rfl, ?_⟩
        refine ⟨k2, rfl, by omega, by omega, fun D nD => ?_⟩
        exact rep_lc (R := RAt') rd1 nD (by omega) (fun _ _ _ _ kp h => RowAt.kp h kp) (fun _ => rfl) (fun x H2 Q m rd2 ps => ⟨_, rfl, r, lo, os, m, rfl, rd2, O, ps⟩) (fun t i er H' d x2 hd => q3.bad er x2 hd)
          (fun ts m3 H3 ys er x3 rd3 eD al => ⟨D, ys, k2, m2, ts, m3, rfl, ek2, er, x1.trans x3, rd3, eD, al⟩)
    rintro σ H3 ⟨p2, ys, k2, j2, ts, m3, rfl, ek2, er2, x3, rd3, ep2, al3⟩
    have q4 := (q2.next ek2 (Same.ex (Same.refl H2))).next er2 x3
    have ep3 := x3 _ _ ep npr
    have alD : All (RDi H3) xs ds := al.imp fun y d h => RowAt.kp h (x3.kp rd2)
    refine ⟨_, rfl, p, xs, rfl, .inl ⟨.inl (.inl ep3), fun t1 m1 => ?_⟩⟩
    refine ⟨_, rfl, p2, ys, rfl, .inl ⟨.inl (.inl (same_new m1 _ _ ep2)), fun t2 m2 => ?_⟩⟩
    intro a dxa na ndxa nae
    refine ⟨a, dxa, .ref t1, .ref t2, rfl, upd_same, fun H4 x4 e4 => ⟨rfl, ?_⟩⟩
    have s34 : Same H3 H4 := (same_new m1).trans ((same_new m2).trans (mk_same na ndxa x4))
    have t1e : H4 t1 = some (.tup xs) := mk_same na ndxa x4 _ _ (same_new m2 _ _ upd_same)
    have t2e : H4 t2 = some (.tup ys) := mk_same na ndxa x4 _ _ upd_same
    have sh4 : ShAt H4 C (.ref a) ds ts := ⟨a, dxa, .ref t1, .ref t2, rfl, e4, ⟨t1, xs, rfl, t1e, alD.imp fun y d h => RowAt.same h s34⟩, ⟨t2, ys, rfl, t2e, al3.imp fun y d h => RowAt.same h s34⟩⟩
    refine ⟨_, rfl, .ref a, ds, ts, rfl, sh4, rep_all (fun _ _ _ _ h => pdim_ok h) er, rep_all (fun _ _ _ _ h => pattr_ok h) er2, fun hc H5 s5 => ?_, fun hc H5 d s5 => ?_⟩
    · rw [hc] at q4
      exact ⟨_, rfl, q4.ok _ _ (if_pos rfl) H5 _ (Same.ex (s34.trans s5)) (rd3.same (s34.trans s5)) (sh4.same s5)⟩
    · rw [hc] at q4
      exact ⟨true, ex, fun _ a na => ⟨_, rfl, rz Z.Z.D fun d H' s hd => q4.no false n (if_neg (by decide)) H' d (Same.ex (s34.trans (s5.trans s))) hd⟩, fun z => by cases z⟩
end
end K2

namespace K2
open PySem L2
def DrD (d : D) : Prop := -4 ≤ d.l ∧ d.l ≤ 4 ∧ d.l ≤ d.h ∧ d.h ≤ d.l + 8 ∧ 1 ≤ d.s ∧ d.s ≤ 4
structure DrSh (ds : List D) (ts : List T) : Prop where
  i : ∃ i, 1 ≤ i ∧ i ≤ 2 ∧ ds.map (·.n) = (["x", "y"] : List Str).take i
  j : ∃ j, 1 ≤ j ∧ j ≤ 2 ∧ ts.map (·.n) = (["v", "w"] : List Str).take j
  d : ∀ d ∈ ds, DrD d
  t : ∀ t ∈ ts, t.k ∈ KS
theorem xy_at {i : Nat} (h : i < 2) : ∃ n : Str, atI [V.str "x", .str "y"] (i : Int) = some (.str n) ∧ (["x", "y"] : List Str).take (i + 1) = (["x", "y"] : List Str).take i ++ [n] := by
  match i, h with
  | 0, _ => exact ⟨"x", rfl, rfl⟩
  | 1, _ => exact ⟨"y", rfl, rfl⟩
theorem vw_at {i : Nat} (h : i < 2) : ∃ n : Str, atI [V.str "v", .str "w"] (i : Int) = some (.str n) ∧ (["v", "w"] : List Str).take (i + 1) = (["v", "w"] : List Str).take i ++ [n] := by
  match i, h with
  | 0, _ => exact ⟨"v", rfl, rfl⟩
  | 1, _ => exact ⟨"w", rfl, rfl⟩
theorem ks_at {v : Int} (h0 : 0 ≤ v) (h1 : v < 3) : ∃ n : Str, n ∈ KS ∧ atI [V.str "int", .str "flag", .str "text"] v = some (.str n) := by
  obtain ⟨k, rfl⟩ : ∃ k : Nat, v = (k : Int) := ⟨v.toNat, by omega⟩
  match k, h1 with
  | 0, _ => exact ⟨"int", by decide +kernel, rfl⟩
  | 1, _ => exact ⟨"flag", by decide +kernel, rfl⟩
  | 2, _ => exact ⟨"text", by decide +kernel, rfl⟩
  | n + 3, h => exact absurd h (by omega)
/-- the state is a list of two numbers, and the script is read the same -/
theorem Ex.sq {K : PySem.W.Frag} {H H1 : Hp} {S scr : Addr} {xs : List V} (q : ∀ H', Ex H H' S → SqL K H' scr xs) (x : Ex H H1 S) : ∀ H', Ex H1 H' S → SqL K H' scr xs := fun H' y => q H' (x.trans y)
section
variable {P : Program} {w : World} {K : PySem.W.Frag} {mg : Str → Option Value} {base : Heap}
def spLSh (K : PySem.W.Frag) (C : Addr) : Sp := fun vs H Q _ => ∃ (S scr : Addr) (ns : List Int), vs = [.ref S, .ref scr] ∧ SAt H S ∧ (∀ H', Ex H H' S → SqL K H' scr (ns.map V.int)) ∧
  ∀ H' v ds ts, Ex H H' S → SAt H' S → ShAt H' C v ds ts → DrSh ds ts → Q v H'
theorem scLSh : FnScope ["state", "script", "dims", "k", "low", "attrs"] ["state", "script"] (defScope sShape) := ⟨rfl, rfl, rfl, by decide +kernel, rfl, by decide +kernel, by decide +kernel⟩
theorem ok_lsh {f fD fI C : Addr} {fd fdD fdI : FuncData} (F : Fun K "_law_shape" "_law_shape" sShape f fd) (M : Nm mg) (S' : KC K C fI SHf) (GI : FnOk P w K mg base CX0 1 fI fdI ["self", "dims", "attrs"] (spShI C)) (bI : Binds K fdI ["self", "dims", "attrs"] []) (gC : mg "Shape" = some (.ref C))
    (GD : FnOk P w K mg base CX0 1 fD fdD ["state", "script", "size"] (spDraw K)) (kD : PySem.W.keepIn K (.ref fD) = true) (bD : Binds K fdD ["state", "script", "size"] []) (gD : mg "_law_draw" = some (.ref fD)) : FnOk P w K mg base CX0 3 f fd ["state", "script"] (spLSh K C) := by
  refine F.ok scLSh (fun vs H Q E h => ?_) (fun cdv A outer s H vs Q E hr h => ?_)
  · obtain ⟨S, scr, ns, rfl, _⟩ := h
    rfl
  · obtain ⟨S, scr, ns, rfl, hS, sq, q⟩ := h
    have hr1 := hr.mono (j := 1) (by decide)
    refine ⟨_, pss_cons (ps_set (i := 2) scLSh.nd rfl (.inl rfl) (pe_lst pa_nil))
      (Evl.pss_cut (ps_for PassesOwn.never rfl (pi_range1 (by rfl) M.range (pa_cons (pe_op op_add pe_int (pe_call GD hr1 (by rfl) gD kD bD .nil pass0 (pa_cons (pv 0) (pa_cons (pv 1) (pa_cons pe_int pa_nil))))) pa_nil)) (pg_name (i := 3) scLSh.nd rfl (.inl rfl))
        (pss_cons (ps_set (i := 4) scLSh.nd rfl (.inl rfl) (pe_op op_sub (pe_call GD hr1 (by rfl) gD kD bD .nil pass0 (pa_cons (pv 0) (pa_cons (pv 1) (pa_cons pe_int pa_nil)))) pe_int))
        (pss_one (ps_expr (pe_bm PySem.F.plainAttrs_list PySem.F.slot_list_append PySem.F.type_list_append mt_append (pv 2) (pa_cons (pe_tup (pa_cons (pe_ix ix_list (pe_lst (pa_cons pe_str (pa_cons pe_str pa_nil))) (pv 3) (fun _ _ => rfl)) (pa_cons (pv 4)
          (pa_cons (pe_op op_add (pv 4) (pe_call GD hr1 (by rfl) gD kD bD .nil pass0 (pa_cons (pv 0) (pa_cons (pv 1) (pa_cons pe_int pa_nil))))) (pa_cons (pe_op op_add pe_int (pe_call GD hr1 (by rfl) gD kD bD .nil pass0 (pa_cons (pv 0) (pa_cons (pv 1) (pa_cons pe_int pa_nil))))) pa_nil))))) pa_nil))))))
      (pss_cons (ps_set (i := 5) scLSh.nd rfl (.inl rfl) (pe_lst pa_nil))
      (Evl.pss_cut (ps_for PassesOwn.never rfl (pi_range1 (by rfl) M.range (pa_cons (pe_op op_add pe_int (pe_call GD hr1 (by rfl) gD kD bD .nil pass0 (pa_cons (pv 0) (pa_cons (pv 1) (pa_cons pe_int pa_nil))))) pa_nil)) (pg_name (i := 3) scLSh.nd rfl (.inl rfl))
        (pss_one (ps_expr (pe_bm PySem.F.plainAttrs_list PySem.F.slot_list_append PySem.F.type_list_append mt_append (pv 5) (pa_cons (pe_tup (pa_cons (pe_ix ix_list (pe_lst (pa_cons pe_str (pa_cons pe_str pa_nil))) (pv 3) (fun _ _ => rfl))
          (pa_cons (pe_ix ix_list (pe_lst (pa_cons pe_str (pa_cons pe_str (pa_cons pe_str pa_nil)))) (pe_call GD hr1 (by rfl) gD kD bD .nil pass0 (pa_cons (pv 0) (pa_cons (pv 1) (pa_cons pe_int pa_nil)))) (fun _ _ => rfl)) pa_nil))) pa_nil)))))
      (pss_one (ps_ret (pe_make S'.mkC GI hr (by rfl) gC bI .nil pass0 (pa_cons (pe_callTy call_tuple_of (by rfl) M.tuple (by decide +kernel) (pa_cons (pv 2) pa_nil)) (pa_cons (pe_callTy call_tuple_of (by rfl) M.tuple (by decide +kernel) (pa_cons (pv 5) pa_nil)) pa_nil)))))))), ?_⟩
    refine ⟨Nat.zero_le _, fun p np => ?_⟩
    have hSn : ∀ {H' : Hp} {a : Addr}, SAt H' S → H' a = none → a ≠ S := fun ⟨x, y, e⟩ n z => by rw [z, e] at n; cases n
    have x0 : Ex H (upd H p (.lst [])) S := fun a o e _ => same_new np a o e
    have npS := hSn hS np
    have st0 : SAt (upd H p (.lst [])) S := by
      obtain ⟨x, y, e⟩ := hS
      exact ⟨x, y, same_new np _ _ e⟩
    refine ⟨fun σ H2 => ∃ y3 y4 xs ds, σ = [some (.ref S), some (.ref scr), some (.ref p), y3, y4, none] ∧ Ex H H2 S ∧ SAt H2 S ∧ H2 p = some (.lst xs) ∧ All (fun y d => RowAt H2 d.v y) xs ds ∧ (∀ d ∈ ds, DrD d) ∧ ∃ i, 1 ≤ i ∧ i ≤ 2 ∧ ds.map (·.n) = (["x", "y"] : List Str).take i, ?_, ?_⟩
    · refine ⟨_, rfl, _, rfl, S, scr, 2, ns, rfl, by decide, by decide, st0, sq _ x0, fun H1 v k1 t1 v0 v1 => ⟨_, _, rfl, rfl, ?_⟩⟩
      refine ⟨_, rfl, by omega, by omega, for_range (lo := 0) (n := (1 + v).toNat) (fun i σ H2 => ∃ y3 y4 xs ds, σ = [some (.ref S), some (.ref scr), some (.ref p), y3, y4, none] ∧ Ex H H2 S ∧ SAt H2 S ∧ H2 p = some (.lst xs) ∧ All (fun y d => RowAt H2 d.v y) xs ds ∧ (∀ d ∈ ds, DrD d) ∧ ds.map (·.n) = (["x", "y"] : List Str).take i) ?_ ?_ ?_⟩
      · exact ⟨none, none, [], [], rfl, x0.trans k1, t1, k1 _ _ upd_same npS, All.nil, fun d h => absurd h List.not_mem_nil, rfl⟩
      · rintro i σ H2 hi ⟨y3, y4, xs, ds, rfl, x2, t2, ep, al, dr, hn⟩
        have hi2 : i < 2 := by omega
        obtain ⟨n, n1, n2⟩ := xy_at hi2
        refine ⟨_, rfl, _, rfl, S, scr, 9, ns, rfl, by decide, by decide, t2, sq _ x2, fun H3 v3 k3 t3 a0 a1 => ⟨_, _, rfl, rfl, ?_⟩⟩
        have e3 := k3 _ _ ep npS
        refine ⟨_, rfl, .inl ⟨rfl, _, .inl (.inl e3)⟩, (by show 2 ≤ sizeLine; decide), fun L nL => ?_⟩
        have t3' : SAt (upd H3 L (.lst [.str "x", .str "y"])) S := by
          obtain ⟨x, y, e⟩ := t3
          exact ⟨x, y, same_new nL _ _ e⟩
        have x3 : Ex H2 (upd H3 L (.lst [.str "x", .str "y"])) S := fun a o e n => same_new nL _ _ (k3 _ _ e n)
        refine ⟨_, rfl, L, _, _, .str n, rfl, rfl, .inl (.inl upd_same), by rw [show (0 : Int) + (i : Int) = (i : Int) from by omega]; exact n1, _, rfl, _, rfl, _, rfl, _, rfl, S, scr, 9, ns, rfl, by decide, by decide, t3', sq _ (x2.trans x3), fun H4 v4 k4 t4 b0 b1 => ⟨_, _, rfl, rfl, ?_⟩⟩
        refine ⟨_, rfl, _, rfl, S, scr, 4, ns, rfl, by decide, by decide, t4, sq _ (x2.trans (x3.trans k4)), fun H5 v5 k5 t5 c0 c1 => ⟨_, _, rfl, rfl, (by show 4 ≤ sizeLine; decide), fun t nt => ?_⟩⟩
        have x5 : Ex H2 H5 S := x3.trans (Ex.trans k4 k5)
        have e5 := x5 _ _ ep npS
        have xl := al.1
        have dl : ds.length ≤ 2 := by
          have := congrArg List.length hn
          rw [List.length_map, List.length_take] at this
          show _ ≤ (["x", "y"] : List Str).length
          omega
        refine ⟨p, xs, .ref t, rfl, rfl, same_new nt _ _ e5, small1000 (by omega), _, _, xs ++ [.ref t], ds ++ [⟨n, v3 - 4, v3 - 4 + v4, 1 + v5⟩], rfl, fun a o e m => ?_, ?_, upd_same, ?_, fun d hd => ?_, ?_⟩
        · rw [upd_ne (fun z => by rw [z, np] at e; cases e)]
          exact same_new nt _ _ (x5 _ _ (x2 _ _ e m) m)
        · obtain ⟨x, y, e⟩ := t5
          exact ⟨x, y, by rw [upd_ne npS.symm]; exact same_new nt _ _ e⟩
        · have ntp : t ≠ p := fun z => by rw [z, e5] at nt; cases nt
          refine All.push (al.imp fun y d ⟨b, b1, b2⟩ => ⟨b, b1, ?_⟩) ⟨t, rfl, by rw [upd_ne ntp, upd_same]; rfl⟩
          rw [upd_ne (ne_of b2 ep (by intro z; cases z))]
          obtain ⟨x, y, eS⟩ := t2
          exact same_new nt _ _ (x5 _ _ b2 (ne_of b2 eS (by intro z; cases z)))
        · rcases List.mem_append.mp hd with z | z
          · exact dr d z
          · rw [List.mem_singleton.mp z]
            unfold DrD
            exact ⟨by show -4 ≤ v3 - 4; omega, by show v3 - 4 ≤ 4; omega, by show v3 - 4 ≤ v3 - 4 + v4; omega, by show v3 - 4 + v4 ≤ v3 - 4 + 8; omega, by show 1 ≤ 1 + v5; omega, by show 1 + v5 ≤ 4; omega⟩
        · rw [List.map_append, hn, n2]
          rfl
      · rintro σ H2 ⟨y3, y4, xs, ds, rfl, x2, t2, ep, al, dr, hn⟩
        exact ⟨_, _, xs, ds, rfl, x2, t2, ep, al, dr, (1 + v).toNat, by omega, by omega, hn⟩
    rintro σ H2 ⟨y3, y4, xs, ds, rfl, x2, t2, ep, al, dr, hi⟩
    refine ⟨Nat.zero_le _, fun p2 np2 => ?_⟩
    have p2S := hSn t2 np2
    have p2p : p2 ≠ p := fun z => by rw [z, ep] at np2; cases np2
    have x6 : Ex H2 (upd H2 p2 (.lst [])) S := fun a o e _ => same_new np2 a o e
    have t6 : SAt (upd H2 p2 (.lst [])) S := by
      obtain ⟨x, y, e⟩ := t2
      exact ⟨x, y, same_new np2 _ _ e⟩
    have np2H : H p2 = none := by
      cases e : H p2 with
      | none => rfl
      | some o =>
        have := x2 p2 o e p2S
        rw [np2] at this
        cases this
    refine ⟨fun σ H3 => ∃ (y3 : Option V) (ys : List V) (ts : List T), σ = [some (.ref S), some (.ref scr), some (.ref p), y3, y4, some (.ref p2)] ∧ Ex H2 H3 S ∧ SAt H3 S ∧ H3 p2 = some (.lst ys) ∧ All (fun y d => RowAt H3 d.v y) ys ts ∧ (∀ t ∈ ts, t.k ∈ KS) ∧ ∃ j, 1 ≤ j ∧ j ≤ 2 ∧ ts.map (·.n) = (["v", "w"] : List Str).take j, ?_, ?_⟩
    · refine ⟨_, rfl, _, rfl, S, scr, 2, ns, rfl, by decide, by decide, t6, sq _ (x2.trans x6), fun H1 v k1 t1 v0 v1 => ⟨_, _, rfl, rfl, ?_⟩⟩
      refine ⟨_, rfl, by omega, by omega, for_range (lo := 0) (n := (1 + v).toNat) (fun i σ H3 => ∃ (y3 : Option V) (ys : List V) (ts : List T), σ = [some (.ref S), some (.ref scr), some (.ref p), y3, y4, some (.ref p2)] ∧ Ex H2 H3 S ∧ SAt H3 S ∧ H3 p2 = some (.lst ys) ∧ All (fun y d => RowAt H3 d.v y) ys ts ∧ (∀ t ∈ ts, t.k ∈ KS) ∧ ts.map (·.n) = (["v", "w"] : List Str).take i) ?_ ?_ ?_⟩
      · exact ⟨_, [], [], rfl, x6.trans k1, t1, k1 _ _ upd_same p2S, All.nil, fun d h => absurd h List.not_mem_nil, rfl⟩
      · rintro i σ H3 hi2' ⟨y3, ys, ts, rfl, x3, t3, ep3, al3, dr3, hn⟩
        have hi2 : i < 2 := by omega
        obtain ⟨n, n1, n2⟩ := vw_at hi2
        refine ⟨_, rfl, .inl ⟨rfl, _, .inl (.inl ep3)⟩, (by show 2 ≤ sizeLine; decide), fun L nL => ?_⟩
        refine ⟨_, rfl, L, _, _, .str n, rfl, rfl, .inl (.inl upd_same), by rw [show (0 : Int) + (i : Int) = (i : Int) from by omega]; exact n1, (by show 3 ≤ sizeLine; decide), fun L2 nL2 => ?_⟩
        have x7 : Ex H3 (upd (upd H3 L (.lst [.str "v", .str "w"])) L2 (.lst [.str "int", .str "flag", .str "text"])) S := fun a o e _ => same_new nL2 _ _ (same_new nL _ _ e)
        have t7 : SAt (upd (upd H3 L (.lst [.str "v", .str "w"])) L2 (.lst [.str "int", .str "flag", .str "text"])) S := by
          obtain ⟨x, y, e⟩ := t3
          exact ⟨x, y, same_new nL2 _ _ (same_new nL _ _ e)⟩
        have nL2S : L2 ≠ S := by
          obtain ⟨x, y, e⟩ := t3
          exact (ne_of_none (same_new nL _ _ e) nL2).symm
        refine ⟨_, rfl, _, rfl, S, scr, 3, ns, rfl, by decide, by decide, t7, sq _ (x2.trans (x3.trans x7)), fun H4 v4 k4 t4 b0 b1 => ?_⟩
        obtain ⟨kd, k0, k1'⟩ := ks_at b0 b1
        refine ⟨L2, _, v4, .str kd, rfl, rfl, .inl (.inl (k4 _ _ upd_same nL2S)), k1', (by show 2 ≤ sizeLine; decide), fun t nt => ?_⟩
        have x5 : Ex H3 H4 S := x7.trans k4
        have e5 := x5 _ _ ep3 p2S
        have xl := al3.1
        have dl : ts.length ≤ 2 := by
          have := congrArg List.length hn
          rw [List.length_map, List.length_take] at this
          show _ ≤ (["v", "w"] : List Str).length
          omega
        refine ⟨p2, ys, .ref t, rfl, rfl, same_new nt _ _ e5, small1000 (by omega), _, ys ++ [.ref t], ts ++ [⟨n, kd⟩], rfl, fun a o e m => ?_, ?_, upd_same, ?_, fun d hd => ?_, ?_⟩
        · rw [upd_ne (fun z => by rw [z, np2] at e; cases e)]
          exact same_new nt _ _ (x5 _ _ (x3 _ _ e m) m)
        · obtain ⟨x, y, e⟩ := t4
          exact ⟨x, y, by rw [upd_ne p2S.symm]; exact same_new nt _ _ e⟩
        · have ntp : t ≠ p2 := fun z => by rw [z, e5] at nt; cases nt
          refine All.push (al3.imp fun y d ⟨b, b1, b2⟩ => ⟨b, b1, ?_⟩) ⟨t, rfl, by rw [upd_ne ntp, upd_same]; rfl⟩
          rw [upd_ne (ne_of b2 ep3 (by intro z; cases z))]
          obtain ⟨x, y, eS⟩ := t3
          exact same_new nt _ _ (x5 _ _ b2 (ne_of b2 eS (by intro z; cases z)))
        · rcases List.mem_append.mp hd with z | z
          · exact dr3 d z
          · rw [List.mem_singleton.mp z]
            exact k0
        · rw [List.map_append, hn, n2]
          rfl
      · rintro σ H3 ⟨y3, ys, ts, rfl, x3, t3, ep3, al3, dr3, hn⟩
        exact ⟨_, ys, ts, rfl, x3, t3, ep3, al3, dr3, (1 + v).toNat, by omega, by omega, hn⟩
    rintro σ H3 ⟨y3, ys, ts, rfl, x3, t3, ep3, al3, dr3, hj⟩
    have epp := x3 _ _ ep npS
    have alD : All (fun y d => RowAt H3 d.v y) xs ds := al.imp fun y d ⟨b, b1, b2⟩ => by
      obtain ⟨x, y', eS⟩ := t2
      exact ⟨b, b1, x3 _ _ b2 (ne_of b2 eS (by intro z; cases z))⟩
    refine ⟨_, rfl, p, xs, rfl, .inl ⟨.inl (.inl epp), fun t1 m1 => ?_⟩⟩
    refine ⟨_, rfl, p2, ys, rfl, .inl ⟨.inl (.inl (same_new m1 _ _ ep3)), fun t2 m2 => ?_⟩⟩
    intro a dxa na ndxa nae
    refine ⟨a, dxa, .ref t1, .ref t2, rfl, upd_same, fun H4 x4 e4 => ⟨rfl, ?_⟩⟩
    have s34 : Same H3 H4 := (same_new m1).trans ((same_new m2).trans (mk_same na ndxa x4))
    have t1e : H4 t1 = some (.tup xs) := mk_same na ndxa x4 _ _ (same_new m2 _ _ upd_same)
    have t2e : H4 t2 = some (.tup ys) := mk_same na ndxa x4 _ _ upd_same
    have st4 : SAt H4 S := by
      obtain ⟨x, y, e⟩ := t3
      exact ⟨x, y, s34 _ _ e⟩
    exact q H4 _ ds ts ((x2.trans x3).same s34) st4 ⟨a, dxa, .ref t1, .ref t2, rfl, e4, ⟨t1, xs, rfl, t1e, alD.imp fun y d h => h.same s34⟩, ⟨t2, ys, rfl, t2e, al3.imp fun y d h => h.same s34⟩⟩ ⟨hi, hj, dr, dr3⟩
end
end K2

namespace K2
open PySem L2
def cntD (d : D) : Nat := ((d.h - d.l) / d.s + 1).toNat
/-- one dimension more -/
def rowS (rs : List (List Int)) (d : D) : List (List Int) := rs.flatMap fun r => (List.range (cntD d)).map fun (i : Nat) => r ++ [(i : Int)]
def rowsF (ds : List D) : List (List Int) := ds.foldl rowS [[]]
def IsAt (H : Hp) (x : V) (r : List Int) : Prop := RowAt H (r.map V.int) x
theorem cnt_le {d : D} (h : DrD d) : cntD d ≤ 9 ∧ (cntD d : Int) = (d.h - d.l) / d.s + 1 := by
  unfold DrD at h
  have h0 : 0 ≤ (d.h - d.l) / d.s := Int.ediv_nonneg (by omega) (by omega)
  have h1 : (d.h - d.l) / d.s ≤ d.h - d.l := by
    refine Int.le_trans (Int.ediv_le_self _ (by omega)) (Int.le_refl _)
  unfold cntD
  omega
theorem rowS_len (rs : List (List Int)) {d : D} (h : DrD d) : (rowS rs d).length ≤ 9 * rs.length := by
  unfold rowS
  induction rs with
  | nil => exact Nat.le_refl _
  | cons r t ih =>
    rw [List.flatMap_cons, List.length_append, List.length_map, List.length_range, List.length_cons]
    have := (cnt_le h).1
    omega
theorem rowsF_len {ds : List D} (h : ∀ d ∈ ds, DrD d) (l : ds.length ≤ 2) (i : Nat) : (rowsF (ds.take i)).length ≤ 81 := by
  match ds, h, l with
  | [], _, _ => rw [List.take_nil]; exact (by decide : (1 : Nat) ≤ 81)
  | [a], h, _ =>
    have h1 := rowS_len [[]] (h a List.mem_cons_self)
    match i with
    | 0 => exact (by decide : (1 : Nat) ≤ 81)
    | k + 1 =>
      show (rowsF (a :: ([] : List D).take k)).length ≤ 81
      rw [List.take_nil]
      exact Nat.le_trans h1 (by decide)
  | [a, b], h, _ =>
    have h1 := rowS_len [[]] (h a List.mem_cons_self)
    have h2 := rowS_len (rowS [[]] a) (h b (List.mem_cons_of_mem _ List.mem_cons_self))
    have h1' : (rowS [[]] a).length ≤ 9 := h1
    match i with
    | 0 => exact (by decide : (1 : Nat) ≤ 81)
    | 1 => exact Nat.le_trans h1 (by decide)
    | k + 2 =>
      show (rowsF (a :: b :: ([] : List D).take k)).length ≤ 81
      rw [List.take_nil]
      show (rowS (rowS [[]] a) b).length ≤ 81
      omega
theorem rowsF_succ {ds : List D} {i : Nat} (h : i < ds.length) : rowsF (ds.take (i + 1)) = rowS (rowsF (ds.take i)) ds[i] := by
  unfold rowsF
  rw [List.take_add_one, List.getElem?_eq_getElem h, List.foldl_append]
  rfl
theorem rowsF_row {ds : List D} : ∀ i, i ≤ ds.length → ∀ r ∈ rowsF (ds.take i), r.length ≤ i
  | 0, _, r, h => by
    rw [List.take_zero] at h
    rw [List.mem_singleton.mp h]
    exact Nat.le_refl _
  | i + 1, hi, r, h => by
    rw [rowsF_succ (Nat.lt_of_succ_le hi)] at h
    unfold rowS at h
    obtain ⟨q, hq, hr⟩ := List.mem_flatMap.mp h
    obtain ⟨k, _, rfl⟩ := List.mem_map.mp hr
    have := rowsF_row i (by omega) q hq
    rw [List.length_append]
    exact Nat.succ_le_succ this
section
variable {P : Program} {w : World} {K : PySem.W.Frag} {mg : Str → Option Value} {base : Heap}
def spLC (C : Addr) : Sp := fun vs H Q _ => ∃ (v : V) (ds : List D) (ts : List T), vs = [v] ∧ ShAt H C v ds ts ∧ (∀ d ∈ ds, DrD d) ∧ ds.length ≤ 2 ∧ ∀ H' p xs, Same H H' → H' p = some (.lst xs) → All (IsAt H') xs (rowsF ds) → Q (.ref p) H'
theorem scLC : FnScope ["shape", "rows", "name", "low", "high", "step", "longer", "row", "index"] ["shape"] (defScope sLChunks) := ⟨rfl, rfl, rfl, by decide +kernel, rfl, by decide +kernel, by decide +kernel⟩
theorem ok_lc' {f fI C : Addr} {fd : FuncData} (F : Fun K "_law_chunks" "_law_chunks" sLChunks f fd) (M : Nm mg) (S : KC K C fI SHf) : FnOk P w K mg base CX0 1 f fd ["shape"] (spLC C) := by
  refine F.ok scLC (fun vs H Q E h => ?_) (fun cdv A outer s H vs Q E hr h => ?_)
  · obtain ⟨v, ds, ts, rfl, _⟩ := h
    rfl
  · obtain ⟨v, ds, ts, rfl, ⟨a, dx, v1, v2, rfl, ha, ⟨td, xs, rfl, htd, had⟩, _⟩, dr, dl, q⟩ := h
    refine ⟨_, pss_cons (ps_set (i := 1) scLC.nd rfl (.inl rfl) (pe_lst (pa_cons (pe_tup pa_nil) pa_nil)))
      (pss_cons (ps_for PassesOwn.never rfl (pi_tup (pe_fld (pv 0) rfl)) (pg_tup (by rfl) (pgs_cons (pg_name (i := 2) scLC.nd rfl (.inl rfl)) (pgs_cons (pg_name (i := 3) scLC.nd rfl (.inl rfl)) (pgs_cons (pg_name (i := 4) scLC.nd rfl (.inl rfl)) (pgs_cons (pg_name (i := 5) scLC.nd rfl (.inl rfl)) pgs_nil)))))
        (pss_cons (ps_set (i := 6) scLC.nd rfl (.inl rfl) (pe_lst pa_nil))
        (Evl.pss_cut (ps_for PassesOwn.never rfl (pi_list (pv 1)) (pg_name (i := 7) scLC.nd rfl (.inl rfl))
          (pss_one (ps_for PassesOwn.never rfl (pi_range1 (by rfl) M.range (pa_cons (pe_op op_add (pe_op op_fdiv (pe_op op_sub (pv 4) (pv 3)) (pv 5)) pe_int) pa_nil)) (pg_name (i := 8) scLC.nd rfl (.inl rfl))
            (pss_one (ps_expr (pe_bm PySem.F.plainAttrs_list PySem.F.slot_list_append PySem.F.type_list_append mt_append (pv 6) (pa_cons (pe_op op_catA (pv 7) (pe_tup (pa_cons (pv 8) pa_nil))) pa_nil)))))))
        (pss_one (ps_set (i := 1) scLC.nd rfl (.inl rfl) (pv 6))))))
      (pss_one (ps_ret (pv 1)))), ?_⟩
    refine ⟨Nat.zero_le _, fun t0 m0 => ⟨(by show 1 ≤ sizeLine; decide), fun p np => ?_⟩⟩
    have s0 : Same H (upd (upd H t0 (.tup [])) p (.lst [.ref t0])) := (same_new m0).trans (same_new np)
    refine ⟨_, rfl, a, C, dx, _, .ref td, rfl, s0 _ _ ha, S.cl, S.na _ (by decide +kernel), rfl, td, rfl, ⟨_, SqT.of (s0 _ _ htd)⟩, for_it (walk_tup (xs := xs)) (fun i σ H2 => ∃ p zs y2 y3 y4 y5 y6 y7 y8, σ = [some (.ref a), some (.ref p), y2, y3, y4, y5, y6, y7, y8] ∧ Same H H2 ∧ H2 p = some (.lst zs) ∧ All (IsAt H2) zs (rowsF (ds.take i))) ?_ ?_ ?_ ?_⟩
    · refine ⟨p, [.ref t0], none, none, none, none, none, none, none, rfl, s0, upd_same, ?_⟩
      have := (All.nil (R := IsAt (upd (upd H t0 (.tup [])) p (.lst [.ref t0])))).push (x := .ref t0) (a := []) ⟨t0, rfl, same_new np _ _ upd_same⟩
      exact this
    · rintro i σ H2 hi ⟨p, zs, y2, y3, y4, y5, y6, y7, y8, rfl, s2, _⟩
      exact SqT.of (s2 _ _ htd)
    · rintro i x σ H2 H' hi ⟨p, zs, y2, y3, y4, y5, y6, y7, y8, rfl, s2, ep, al⟩ ⟨rfl, hx⟩
      rw [had.1] at hi
      obtain ⟨b, rfl, hb⟩ := had.at hi hx
      have drd := dr _ (List.getElem_mem hi)
      have rl := rowsF_len dr dl i
      have rl2 := rowsF_len dr dl (i + 1)
      have rrow := rowsF_row i (Nat.le_of_lt hi)
      rw [rowsF_succ hi] at rl2 ⊢
      generalize ds[i] = d at hb drd rl2 ⊢
      generalize rowsF (ds.take i) = rs at al rl rl2 rrow ⊢
      obtain ⟨c1, c2⟩ := cnt_le drd
      have dr2 := drd
      unfold DrD at dr2
      refine ⟨b, _, rfl, SqT.of (s2 _ _ hb), rfl, _, _, rfl, _, _, rfl, _, _, rfl, _, _, rfl, rfl, ?_⟩
      refine ⟨Nat.zero_le _, fun p2 np2 => ?_⟩
      have s3 : Same H' (upd H' p2 (.lst [])) := same_new np2
      refine ⟨fun σ H3 => ∃ ws y7 y8, σ = [some (.ref a), some (.ref p), some (.str d.n), some (.int d.l), some (.int d.h), some (.int d.s), some (.ref p2), y7, y8] ∧ Same H' H3 ∧ H3 p2 = some (.lst ws) ∧ All (IsAt H3) ws (rowS rs d), ?_, ?_⟩
      · refine ⟨_, rfl, p, rfl, ⟨_, .inl (.inl (s3 _ _ ep))⟩, for_it (walk_list (xs := zs)) (fun j σ H3 => ∃ ws y7 y8, σ = [some (.ref a), some (.ref p), some (.str d.n), some (.int d.l), some (.int d.h), some (.int d.s), some (.ref p2), y7, y8] ∧ Same H' H3 ∧ H3 p2 = some (.lst ws) ∧ All (IsAt H3) ws (rowS (rs.take j) d)) ?_ ?_ ?_ ?_⟩
        · exact ⟨[], _, _, rfl, s3, upd_same, All.nil⟩
        · rintro j σ H3 hj ⟨ws, y7, y8, rfl, s4, _⟩
          exact .inl (.inl (s4 _ _ ep))
        · rintro j x σ H3 H4 hj ⟨ws, y7, y8, rfl, s4, e2, alw⟩ ⟨rfl, hx⟩
          rw [al.1] at hj
          obtain ⟨e, rfl, he⟩ := al.at hj hx
          have er : rowS (rs.take (j + 1)) d = rowS (rs.take j) d ++ (List.range (cntD d)).map fun (i : Nat) => rs[j] ++ [(i : Int)] := by
            unfold rowS
            rw [List.take_add_one, List.getElem?_eq_getElem hj, List.flatMap_append]
            show _ ++ [rs[j]].flatMap _ = _
            rw [List.flatMap_singleton]
          have wl : (rowS (rs.take j) d).length ≤ 729 := by
            have := rowS_len (rs.take j) drd
            rw [List.length_take] at this
            omega
          rw [er]
          have rlen := rrow _ (List.getElem_mem hj)
          generalize rs[j] = r at he rlen ⊢
          generalize rowS (rs.take j) d = acc at alw wl ⊢
          refine ⟨_, rfl, _, rfl, _, _, rfl, rfl, _, rfl, _, _, rfl, rfl, ⟨by omega, by omega⟩, _, _, rfl, rfl, ?_⟩
          refine ⟨_, rfl, by omega, by omega, for_range (lo := 0) (n := ((d.h - d.l) / d.s + 1).toNat) (fun k σ H5 => ∃ ws y8, σ = [some (.ref a), some (.ref p), some (.str d.n), some (.int d.l), some (.int d.h), some (.int d.s), some (.ref p2), some (.ref e), y8] ∧ Same H' H5 ∧ H5 p2 = some (.lst ws) ∧ All (IsAt H5) ws (acc ++ (List.range k).map fun (i : Nat) => r ++ [(i : Int)])) ?_ ?_ ?_⟩
          · exact ⟨ws, _, rfl, s4, e2, by rw [List.range_zero, List.map_nil, List.append_nil]; exact alw⟩
          · rintro k σ H5 hk ⟨vs, y8, rfl, s5, e5, al5⟩
            have he5 := s5 _ _ he
            have vl := al5.1
            rw [List.length_append, List.length_map, List.length_range] at vl
            have hk9 : k < 9 := by
              have : cntD d = ((d.h - d.l) / d.s + 1).toNat := rfl
              omega
            have er2 : acc ++ (List.range (k + 1)).map (fun (i : Nat) => r ++ [(i : Int)]) = (acc ++ (List.range k).map (fun (i : Nat) => r ++ [(i : Int)])) ++ [r ++ [(k : Int)]] := by
              rw [List.range_succ, List.map_append, List.append_assoc]
              rfl
            have fin : ∀ (H6 : Hp) (t : Addr), Same H5 H6 → H6 t = some (.tup ((r ++ [(k : Int)]).map V.int)) → ∃ ws y8, [some (V.ref a), some (.ref p), some (.str d.n), some (.int d.l), some (.int d.h), some (.int d.s), some (.ref p2), some (.ref e), some (.int (0 + (k : Int)))] = [some (V.ref a), some (.ref p), some (.str d.n), some (.int d.l), some (.int d.h), some (.int d.s), some (.ref p2), some (.ref e), y8] ∧ Same H' (upd H6 p2 (.lst (vs ++ [.ref t]))) ∧ (upd H6 p2 (.lst (vs ++ [.ref t]))) p2 = some (.lst ws) ∧ All (IsAt (upd H6 p2 (.lst (vs ++ [.ref t])))) ws (acc ++ (List.range (k + 1)).map fun (i : Nat) => r ++ [(i : Int)]) := fun H6 t s6 et => by
              refine ⟨vs ++ [.ref t], _, rfl, fun z o ez => ?_, upd_same, ?_⟩
              · rw [upd_ne (fun y => by rw [y, np2] at ez; cases ez)]
                exact s6 _ _ (s5 _ _ ez)
              · rw [er2]
                have e6 := s6 _ _ e5
                refine All.push (al5.imp fun y q' ⟨b', b1, b2⟩ => ⟨b', b1, ?_⟩) ⟨t, rfl, by rw [upd_ne (ne_of et e6 (by intro z; cases z))]; exact et⟩
                rw [upd_ne (ne_of b2 e5 (by intro z; cases z))]
                exact s6 _ _ b2
            refine ⟨_, rfl, .inl ⟨rfl, _, .inl (.inl e5)⟩, _, rfl, _, rfl, (by show 1 ≤ sizeLine; decide), fun t nt => ?_⟩
            have st := same_new (o := .tup [.int (0 + (k : Int))]) nt
            refine ⟨e, t, _, _, rfl, rfl, SqT.of (st _ _ he5), SqT.of upd_same, ?_, fun hnil => ?_, (fun _ h => by cases h), fun _ _ t2 nt2 => ?_⟩
            · rw [List.length_map]
              show r.length + 1 ≤ sizeLine
              exact big (by omega)
            · refine ⟨p2, vs, .ref t, rfl, rfl, st _ _ e5, small1000 (by omega), fin _ t st ?_⟩
              rw [upd_same]
              have : r = [] := List.map_eq_nil_iff.mp hnil
              rw [this, show (0 : Int) + (k : Int) = (k : Int) from by omega]
              rfl
            · refine ⟨p2, vs, .ref t2, rfl, rfl, same_new nt2 _ _ (st _ _ e5), small1000 (by omega), fin _ t2 (st.trans (same_new nt2)) ?_⟩
              rw [upd_same, show (0 : Int) + (k : Int) = (k : Int) from by omega, List.map_append]
              rfl
          · rintro σ H5 ⟨vs, y8, rfl, s5, e5, al5⟩
            exact ⟨vs, _, _, rfl, s5, e5, al5⟩
        · rintro σ H3 ⟨ws, y7, y8, rfl, s4, e2, alw⟩
          rw [al.1, List.take_length] at alw
          exact ⟨ws, _, _, rfl, s4, e2, alw⟩
      · rintro σ H3 ⟨ws, y7, y8, rfl, s4, e2, alw⟩
        exact ⟨_, rfl, p2, ws, _, _, _, _, _, _, _, rfl, s2.trans s4, e2, alw⟩
    · rintro σ H2 ⟨p, zs, y2, y3, y4, y5, y6, y7, y8, rfl, s2, ep, al⟩
      rw [had.1, List.take_length] at al
      exact ⟨_, rfl, q H2 p zs s2 ep al⟩
end
end K2

namespace K2
open PySem L2
/-- all but lists stay -/
def Kt (H H1 : Hp) : Prop := ∀ a o, H a = some o → (∀ xs, o ≠ .lst xs) → H1 a = some o
theorem Kt.trans {H H1 H2 : Hp} (a : Kt H H1) (b : Kt H1 H2) : Kt H H2 := fun x o e n => b x o (a x o e n) n
theorem kt_same {H H1 : Hp} (s : Same H H1) : Kt H H1 := fun x o e _ => s x o e
theorem kt_ex {H H1 : Hp} {S : Addr} (x : Ex H H1 S) (t : SAt H S) : Kt H H1 := fun a o e n => x a o e fun z => by
  obtain ⟨u, v, eS⟩ := t
  rw [z, eS] at e
  exact n _ (Option.some.inj e).symm
theorem kt_upd {H : Hp} {p : Addr} {xs ys : List V} (e : H p = some (.lst xs)) : Kt H (upd H p (.lst ys)) := fun a o ea n => by
  rw [upd_ne fun z => n xs (by rw [z, e] at ea; exact (Option.some.inj ea).symm)]
  exact ea
section
variable {H H1 : Hp} {C : Addr}
theorem RowAt.kt {r : List V} {x : V} (h : RowAt H r x) (k : Kt H H1) : RowAt H1 r x := let ⟨a, e1, e2⟩ := h; ⟨a, e1, k _ _ e2 (fun _ z => nomatch z)⟩
theorem TupAt.kt {α : Type} {R S : V → α → Prop} {x : V} {l : List α} (h : TupAt H R x l) (k : Kt H H1) (f : ∀ x a, R x a → S x a) : TupAt H1 S x l := let ⟨a, xs, e1, e2, e3⟩ := h; ⟨a, xs, e1, k _ _ e2 (fun _ z => nomatch z), e3.imp f⟩
theorem ShAt.kt {x : V} {ds : List D} {ts : List T} (h : ShAt H C x ds ts) (k : Kt H H1) : ShAt H1 C x ds ts := let ⟨a, dx, u, v, e1, e2, e3, e4⟩ := h
  ⟨a, dx, u, v, e1, k _ _ e2 (fun _ z => nomatch z), e3.kt k fun _ _ z => z.kt k, e4.kt k fun _ _ z => z.kt k⟩
theorem CkAt.kt {x : V} {c : Ck} (h : CkAt H x c) (k : Kt H H1) : CkAt H1 x c := let ⟨a, b, e1, e2, e3⟩ := h; ⟨a, b, e1, k _ _ e2 (fun _ z => nomatch z), k _ _ e3 (fun _ z => nomatch z)⟩
theorem ArAt.kt {x : V} {r : Ar} (h : ArAt H C x r) (k : Kt H H1) : ArAt H1 C x r := let ⟨a, u, v, e1, e2, e3, e4⟩ := h; ⟨a, u, v, e1, k _ _ e2 (fun _ z => nomatch z), e3.kt k, e4.kt k fun _ _ z => z.kt k⟩
theorem VeAt.kt {x : V} {r : Ve} (h : VeAt H C x r) (k : Kt H H1) : VeAt H1 C x r := let ⟨a, v, e1, e2, e3⟩ := h; ⟨a, v, e1, k _ _ e2 (fun _ z => nomatch z), e3.kt k fun _ _ z => z.kt k⟩
end
section
variable {P : Program} {w : World} {K : PySem.W.Frag} {mg : Str → Option Value} {base : Heap}
def RIn (CR C : Addr) : Sp := fun vs H Q _ => ∃ (x dx : Addr) (u v t : V), vs = [.ref x, u, v, t] ∧ H x = some (.ins CR dx []) ∧ ∀ H', Ex H H' x → H' x = some (.ins CR dx [("upcoming", u), ("data", v), ("versions", t)]) → Q .non H'
theorem scRI : FnScope ["self", "upcoming", "data", "versions"] ["self", "upcoming", "data", "versions"] (defScope sRootInit) := ⟨rfl, rfl, rfl, by decide +kernel, rfl, by decide +kernel, by decide +kernel⟩
theorem ok_ri {f CR C : Addr} {fd : FuncData} (F : Fun K "__init__" "Root.__init__" sRootInit f fd) (R : KC K CR f RHf) : FnOk P w K mg base CX0 1 f fd ["self", "upcoming", "data", "versions"] (RIn CR C) := by
  refine F.ok scRI (fun vs H Q E h => ?_) (fun cdv A outer s H vs Q E hr h => ?_)
  · obtain ⟨x, dx, u, v, t, rfl, _⟩ := h
    rfl
  · obtain ⟨x, dx, u, v, t, rfl, hx, q⟩ := h
    refine ⟨_, pss_cons (ps_fld (pv 0) (pv 1) rfl) (pss_cons (ps_fld (pv 0) (pv 2) rfl) (pss_one (ps_fld (pv 0) (pv 3) rfl))), ?_⟩
    refine ⟨_, rfl, _, rfl, x, CR, dx, [], rfl, hx, R.cl, R.na _ (by decide +kernel), (by decide), ?_⟩
    refine ⟨_, rfl, _, rfl, x, CR, dx, _, rfl, upd_same, R.cl, R.na _ (by decide +kernel), (by show 1 < 1000; decide), ?_⟩
    exact ⟨_, rfl, _, rfl, x, CR, dx, _, rfl, upd_same, R.cl, R.na _ (by decide +kernel), (by show 2 < 1000; decide), q _ (fun a o e n => by rw [upd_ne n, upd_ne n, upd_ne n]; exact e) upd_same⟩
end
end K2

namespace K2
open PySem PySem.Spec PyProof.Rows L2
/-! ### t >= u, tuples of ints -/
theorem lexGe {ns ms : List Int} : ∀ (k i : Nat), i + k = min ns.length ms.length →
    Ob.lexAt (fun j => decide (ns.getD j 0 = ms.getD j 0)) (fun j => decide (ms.getD j 0 ≤ ns.getD j 0)) (decide (ns.length ≥ ms.length)) i k = !HT.lexLt (ns.drop i) (ms.drop i)
  | 0, i, h => by
    rw [Ob.lexAt_zero]
    rcases Nat.lt_or_ge ns.length ms.length with g | g
    · rw [decide_eq_false (by omega), List.drop_of_length_le (by omega), List.drop_eq_getElem_cons (show i < ms.length by omega)]
      rfl
    · rw [decide_eq_true g, List.drop_of_length_le (l := ms) (by omega)]
      cases ns.drop i <;> rfl
  | k + 1, i, h => by
    have h1 : i < ns.length := by omega
    have h2 : i < ms.length := by omega
    have g1 : ns.getD i 0 = ns[i] := by rw [List.getD_eq_getElem?_getD, List.getElem?_eq_getElem h1]; rfl
    have g2 : ms.getD i 0 = ms[i] := by rw [List.getD_eq_getElem?_getD, List.getElem?_eq_getElem h2]; rfl
    rw [Ob.lexAt_succ, lexGe k (i + 1) (by omega), List.drop_eq_getElem_cons h1, List.drop_eq_getElem_cons h2]
    rw [g1, g2]
    show _ = !(if ns[i] = ms[i] then HT.lexLt (ns.drop (i + 1)) (ms.drop (i + 1)) else decide (ns[i] < ms[i]))
    by_cases e : ns[i] = ms[i]
    · rw [if_pos e, decide_eq_true e, if_pos rfl]
    · rw [if_neg e, decide_eq_false e, if_neg Bool.false_ne_true]
      by_cases l : ns[i] < ms[i]
      · rw [decide_eq_true l, decide_eq_false (by omega)]
        rfl
      · rw [decide_eq_false l, decide_eq_true (by omega)]
        rfl
def rGeT (K : PySem.W.Frag) : R2 := fun x y H Q => ∃ (a b : Addr) (ns ms : List Int), x = .ref a ∧ y = .ref b ∧ SqT K H a (ns.map V.int) ∧ SqT K H b (ms.map V.int) ∧ Q (.bl (!HT.lexLt ns ms)) H
theorem op_geT {X : Cx} (hu : X.A.units < cLine) : OpR X (compareOp .GtE) (rGeT X.K) := by
  rintro pins s σ H x y v u Q I rx ry ⟨a, b, ns, ms, rfl, rfl, ha, hb, q⟩
  cases rx
  cases ry
  obtain ⟨its, r1, p1, _⟩ := I.tuple ha
  obtain ⟨jts, r2, p2, _⟩ := I.tuple hb
  have i1 : IntsAre its ns := Vals.ints r1
  have i2 : IntsAre jts ms := Vals.ints r2
  have at_ : ∀ {l : List Value} {ks : List Int} (i : IntsAre l ks) (j : Nat) (h : j < l.toArray.size), ∃ t, l.toArray[j] = .int (ks.getD j 0) t := fun i j h => PyProof.Rows.IntsAre.int_at i _ _ (by simp at h; simp [h])
  have R := Ob.RcOp.tuples_ge (A := X.A) (s := s) (e := fun j => decide (ns.getD j 0 = ms.getD j 0)) (r := fun j => decide (ms.getD j 0 ≤ ns.getD j 0)) p1 p2 hu (fun j g1 g2 => by
      obtain ⟨t1, e1⟩ := at_ i1 j g1
      obtain ⟨t2, e2⟩ := at_ i2 j g2
      rw [e1, e2]
      have y : decide (ns.getD j 0 = ms.getD j 0) = (ns.getD j 0 == ms.getD j 0) := rfl
      rw [y]
      exact SeqAt.EqAt.int_int _ _ _ _) (fun j g1 g2 _ => by
      obtain ⟨t1, e1⟩ := at_ i1 j g1
      obtain ⟨t2, e2⟩ := at_ i2 j g2
      rw [e1, e2]
      exact Ob.RcOp.ge_int _ _ _ _)
  have s1 : its.toArray.size = ns.length := by rw [List.size_toArray]; exact i1.length
  have s2 : jts.toArray.size = ms.length := by rw [List.size_toArray]; exact i2.length
  rw [s1, s2, lexGe _ 0 (by omega)] at R
  exact R X.prog X.w X.xe (EP X pins σ Q) ⟨.bl _, H, I, rfl, q⟩
/-! ### a shape beside a reader -/
theorem ShAt.ex {CO C : Addr} {H H1 : Hp} {r lo : Addr} {os : List Int} {n : Nat} {x : V} {ds : List D} {ts : List T} (h : ShAt H C x ds ts) (e : Ex H H1 r) (rd : RdAt CO H r lo os n) : ShAt H1 C x ds ts := by
  obtain ⟨a, dx, u, v, e1, e2, ⟨a3, xs3, f1, f2, f3⟩, ⟨a4, xs4, g1, g2, g3⟩⟩ := h
  obtain ⟨dr, er⟩ := rd.i
  have na : a ≠ r := ne_of e2 er (by
    intro z
    injection z with _ _ z
    injection z with z _
    injection z with z _
    exact absurd z (by decide +kernel))
  exact ⟨a, dx, u, v, e1, e _ _ e2 na, ⟨a3, xs3, f1, e _ _ f2 (ne_of f2 er (by intro z; cases z)), f3.imp fun y d h => h.ex e rd⟩, ⟨a4, xs4, g1, e _ _ g2 (ne_of g2 er (by intro z; cases z)), g3.imp fun y d h => h.ex e rd⟩⟩
end K2

/-! zip of a tuple and a list -/
namespace K2
open PySem PySem.Spec PyProof.Rows L2
def ItTL (K : PySem.W.Frag) (a b : Addr) (xs ys : List V) : It :=
  ⟨fun i H => (SqT K H a xs ∧ SqL K H b ys) ∧ i < xs.length ∧ i < ys.length,
    fun i H v H' => ∃ T x y, v = .ref T ∧ H T = none ∧ H' = upd H T (.tup [x, y]) ∧ xs[i]? = some x ∧ ys[i]? = some y,
    fun i H => (SqT K H a xs ∧ SqL K H b ys) ∧ i ≤ xs.length ∧ i ≤ ys.length ∧ (i = xs.length ∨ i = ys.length)⟩
def StTL (z TI TO i1 i2 a b : Addr) (i : Nat) (h : Heap) : Prop :=
  IsZip h z TI TO .none ∧ IsTupOf2 h TI (.ref i1) (.ref i2) ∧ (∃ x y, IsTupOf2 h TO x y) ∧ h.IsTupleIter i1 a i ∧ h.IsListIter i2 b i
structure SepTL (z TI TO i1 i2 a b : Addr) : Prop where
  s : ZipSep2 z TI TO i1 i2 [i1, a] [i2, b]
  a1 : a ≠ i1
  b2 : b ≠ i2
theorem sepTL (n a b : Nat) (ha : a < n) (hb : b < n) : SepTL (n + 4) (n + 2) (n + 3) n (n + 1) a b := by
  have m2 : ∀ {x y z : Nat}, x ≠ y → x ≠ z → x ∉ [y, z] := fun h1 h2 q => by
    rcases List.mem_cons.mp q with e | q
    · exact h1 e
    · exact h2 (List.mem_singleton.mp q)
  have k1 : ∀ i j : Nat, i ≠ j → n + i ≠ n + j := fun i j h => by omega
  have k2 : ∀ i j : Nat, j < n → n + i ≠ j := fun i j h => by omega
  exact ⟨⟨k1 2 4 (by decide), k1 3 4 (by decide), k1 2 3 (by decide), k1 2 0 (by decide), List.mem_cons_self, m2 (k1 4 0 (by decide)) (k2 4 a ha), m2 (k1 3 0 (by decide)) (k2 3 a ha), k1 2 1 (by decide), List.mem_cons_self, m2 (k1 4 1 (by decide)) (k2 4 b hb), m2 (k1 3 1 (by decide)) (k2 3 b hb), m2 (k1 0 1 (by decide)) (k2 0 b hb), m2 (k1 1 0 (by decide)) (k2 1 a ha)⟩, (k2 0 a ha).symm, (k2 1 b hb).symm⟩
theorem tu_zipTL {P : Program} {w : World} {K : PySem.W.Frag} {elts : List Expr} {kk : Nat} {tpos : Pos} {a b z TI TO i1 i2 : Addr} (xs ys : List V) (S : SepTL z TI TO i1 i2 a b) :
    Turn P w K (.Tuple elts kk tpos) (ItTL K a b xs ys) [z, TI, TO, i1, i2] z (StTL z TI TO i1 i2 a b) := by
  have five : ∀ {p : Addr → Prop}, p z → p TI → p TO → p i1 → p i2 → ∀ c ∈ [z, TI, TO, i1, i2], p c := by
    intro p q1 q2 q3 q4 q5 c hc
    rcases List.mem_cons.mp hc with rfl | hc
    · exact q1
    rcases List.mem_cons.mp hc with rfl | hc
    · exact q2
    rcases List.mem_cons.mp hc with rfl | hc
    · exact q3
    rcases List.mem_cons.mp hc with rfl | hc
    · exact q4
    rw [List.mem_singleton.mp hc]
    exact q5
  refine ⟨by simp, fun i h st => ?_, fun i h h' st k => ?_, ?_, ?_, fun A i s Q E st h => wpAny_pyIter_zip st.1 h⟩
  · obtain ⟨q1, q2, ⟨x, y, q3⟩, ⟨o1, e1, _, d1⟩, ⟨o2, e2, _, d2⟩⟩ := st
    exact five (p := fun b => ∃ o, h.get? b = some o ∧ ∀ v, o.data ≠ .cell v) ⟨_, q1, fun v q => nomatch q⟩ ⟨_, q2, fun v q => nomatch q⟩ ⟨_, q3, fun v q => nomatch q⟩ ⟨o1, e1, fun v q => by rw [d1] at q; cases q⟩ ⟨o2, e2, fun v q => by rw [d2] at q; cases q⟩
  · obtain ⟨q1, q2, ⟨x, y, q3⟩, q4, q5⟩ := st
    exact ⟨k z (by simp) _ q1, k TI (by simp) _ q2, ⟨x, y, k TO (by simp) _ q3⟩, q4.at fun o q => k i1 (by simp) o q, q5.at fun o q => k i2 (by simp) o q⟩
  · intro X hP hw hK hc i pins s σ H E I hf st hg
    subst hP hw hK
    obtain ⟨q1, q2, ⟨x0, y0, q3⟩, q4, q5⟩ := st
    obtain ⟨⟨ha, hb⟩, hi, hj⟩ := hg
    obtain ⟨its, rv, p, _⟩ := I.tuple ha
    obtain ⟨jts, rw', p', _⟩ := I.list hb
    have pt : s.heap.IsTuple a its.toArray := p
    have pl : s.heap.IsList b jts.toArray := p'.isList
    obtain ⟨u, hu, ru⟩ := rv.get (List.getElem?_eq_getElem hi)
    obtain ⟨v, hv, rv'⟩ := rw'.get (List.getElem?_eq_getElem hj)
    have hi2 : i < its.toArray.size := by rw [List.size_toArray, ← rv.length]; exact hi
    have hj2 : i < jts.toArray.size := by rw [List.size_toArray, ← rw'.length]; exact hj
    have lt : ∀ c ∈ [z, TI, TO, i1, i2], c < s.heap.objs.size := five (p := fun c => c < s.heap.objs.size) (Heap.lt_size q1) (Heap.lt_size q2) (Heap.lt_size q3) (let ⟨_, q, _⟩ := q4; Heap.lt_size q) (let ⟨_, q, _⟩ := q5; Heap.lt_size q)
    refine wpAny_pyNext_zipD2_item S.s (Draws.tuple (prog := X.prog) (w := X.w) (A := X.A.in1) (I.ok.hd hc) i1 a S.a1 its.toArray) (Draws.list (prog := X.prog) (w := X.w) (A := X.A.in1) (I.ok.hd hc) i2 b S.b2 jts.toArray) q1 q2 q3 ⟨q4, pt⟩ ⟨q5, pl⟩ hi2 hj2
      fun x1 x2 h2 tk hx1 hx2 z2 t2 w1 w2 nT hsz hk => ?_
    have ex : x1 = u := by
      have y : its.toArray[i]? = some x1 := hx1
      rw [List.getElem?_toArray, hu] at y
      exact (Option.some.inj y).symm
    have ey : x2 = v := by
      have y : jts.toArray[i]? = some x2 := hx2
      rw [List.getElem?_toArray, hv] at y
      exact (Option.some.inj y).symm
    subst ex ey
    refine ⟨_, rfl, wpAny_letOwnedTupleGo_zip (s := { s with heap := h2, toks := tk }) z2 fun h3 z3 sb => ?_⟩
    have lz := lt z (by simp)
    have nT3 : h3.get? s.heap.objs.size = some { cls := .type "tuple", data := .seq #[x1, x2] } := (sb.2 _ (Nat.ne_of_gt lz)).trans nT
    have sm3 : ∀ c ob, c ∉ [z, TI, TO, i1, i2] → s.heap.get? c = some ob → h3.get? c = some ob := fun c ob hb q => by
      have n1 : c ≠ z := fun z => hb (by simp [z])
      exact (sb.2 c n1).trans (hk c ob n1 (fun z => hb (by simp [z])) (fun z => hb (by simp [z])) (fun z => hb (by simp [z])) q)
    have nw : ObjOk X.prog X.w (upd H s.heap.objs.size (.tup [xs[i], ys[i]])) h3 s.heap.objs.size (.tup [xs[i], ys[i]]) :=
      ⟨by show 2 ≤ sizeLine; decide, [x1, x2], .cons ru (.cons rv' .nil), _, nT3, rfl, _, rfl⟩
    have I3 := I.turnedNew (t' := tk) (ch := [z, TI, TO, i1, i2]) sm3 hf (Nat.le_refl _) nw
    refine ⟨.ref s.heap.objs.size, _, I3, rfl, ⟨_, xs[i], ys[i], rfl, I.hok.fresh (Nat.le_refl _), rfl, List.getElem?_eq_getElem hi, List.getElem?_eq_getElem hj⟩, ⟨z3, ?_, ⟨x1, x2, (sb.2 _ S.s.TOz).trans t2⟩, w1.1.at fun o q => (sb.2 i1 S.s.zi1.symm).trans q, w2.1.at fun o q => (sb.2 i2 S.s.zi2.symm).trans q⟩, fun c hcm => ?_⟩
    · exact (sb.2 _ S.s.TIz).trans (hk TI _ S.s.TIz S.s.TITO S.s.TIi1 S.s.TIi2 q2)
    · rw [upd_ne (Nat.ne_of_lt (lt c hcm))]
      exact (hf c hcm).1
  · intro X hP hw hK hc i pins s σ H E I hf st hg
    subst hP hw hK
    obtain ⟨q1, q2, ⟨x0, y0, q3⟩, q4, q5⟩ := st
    obtain ⟨⟨ha, hb⟩, hi, hj, he⟩ := hg
    obtain ⟨its, rv, p, _⟩ := I.tuple ha
    obtain ⟨jts, rw', p', _⟩ := I.list hb
    have pt : s.heap.IsTuple a its.toArray := p
    have pl : s.heap.IsList b jts.toArray := p'.isList
    have l1 : its.toArray.size = xs.length := by rw [List.size_toArray, ← rv.length]
    have l2 : jts.toArray.size = ys.length := by rw [List.size_toArray, ← rw'.length]
    refine wpAny_pyNext_zipD2_end S.s (Draws.tuple (prog := X.prog) (w := X.w) (A := X.A.in1) (I.ok.hd hc) i1 a S.a1 its.toArray) (Draws.list (prog := X.prog) (w := X.w) (A := X.A.in1) (I.ok.hd hc) i2 b S.b2 jts.toArray) q1 q2 q3 ⟨q4, pt⟩ ⟨q5, pl⟩ (by omega) (by omega) (by omega)
      fun h2 tk hk => ⟨rfl, I.turnedL (t' := tk) (ch := [z, TI, TO, i1, i2]) (fun c o hb q => hk c o (fun z => hb (by simp [z])) (fun z => hb (by simp [z])) (fun z => hb (by simp [z])) (fun z => hb (by simp [z])) q) hf⟩
def iZipTL (K : PySem.W.Frag) (ta : TA) : TI := fun σ H R => ta σ H fun vs H1 => ∃ a b xs ys, vs = [.ref a, .ref b] ∧ (SqT K H1 a xs ∧ SqL K H1 b ys) ∧ R (ItTL K a b xs ys) H1
theorem pi_zipTL {X : Cx} {e e2 : Expr} {ta : TA} {p pos tpos : Pos} {elts : List Expr} {kk : Nat} (hg : Gl X "zip") (hm : X.mg "zip" = none) (ha : PA X [e, e2] ta)
    (hs : starEach [e, e2] X.env = (false, eval e X.env) :: starEach [e2] X.env := by rfl) (hs2 : (backTo pos (starEach [e2] X.env)).any (·.1) = false := by rfl) :
    PI X (.Tuple elts kk tpos) (.Call (.Name "zip" p) [e, e2] [] pos) (iZipTL X.K ta) := by
  refine ⟨fun pins s σ H R I h => Call_ (ld_blt I hg hm boot_zip (PyProof.Rows.callWith_type1 (thn (ha.run pos pins s σ H _ I h) fun us s1 ⟨vs, H1, I1, r1, a, b, xs, ys, ex, ⟨h1, h2⟩, q⟩ => ?_) hs hs2))⟩
  subst ex
  obtain ⟨its, rv, p1, _⟩ := I1.tuple h1
  obtain ⟨jts, rw', p2, _⟩ := I1.list h2
  have pt : s1.heap.IsTuple a its.toArray := p1
  have pl : s1.heap.IsList b jts.toArray := p2.isList
  have la : a < s1.heap.objs.size := by obtain ⟨_, q, _⟩ := id pt; exact Heap.lt_size q
  have lb : b < s1.heap.objs.size := by obtain ⟨_, q, _⟩ := id pl; exact Heap.lt_size q
  cases r1 with
  | cons r rr =>
    cases rr with
    | cons r' rr =>
      cases rr
      cases r
      cases r'
      refine zip_begins2 (begins_tuple a its.toArray) (begins_list b jts.toArray) pt pl fun h2 z1 z2 z3 z4 z5 sz hk => wpAny_pyIter_zip z1 ?_
      have S := sepTL s1.heap.objs.size a b la lb
      refine ⟨s1.heap.objs.size + 4, [s1.heap.objs.size + 4, s1.heap.objs.size + 2, s1.heap.objs.size + 3, s1.heap.objs.size, s1.heap.objs.size + 1], _, _, H1, rfl, I1.kept (t' := s1.toks) hk, tu_zipTL xs ys S, ⟨z1, z2, ⟨_, _, z3⟩, ⟨_, z4, rfl, rfl⟩, ⟨_, z5, rfl, rfl⟩⟩, fun c hc => ?_, q⟩
      have lc : s1.heap.objs.size ≤ c := by
        have k0 : ∀ i : Nat, s1.heap.objs.size ≤ s1.heap.objs.size + i := fun i => Nat.le_add_right _ i
        simp only [List.mem_cons, List.not_mem_nil, or_false] at hc
        rcases hc with rfl | rfl | rfl | rfl | rfl
        · exact k0 4
        · exact k0 2
        · exact k0 3
        · exact k0 0
        · exact k0 1
      exact I1.fpOk lc (I1.hok.fresh lc)
theorem walk_zipTL {K : PySem.W.Frag} {a b : Addr} {xs ys : List V} (hl : xs.length = ys.length) : Walk (ItTL K a b xs ys) xs.length (fun H => SqT K H a xs ∧ SqL K H b ys) (YPair (fun i => xs[i]?) (fun i => ys[i]?)) :=
  ⟨fun i _ hi q => ⟨q, hi, hl ▸ hi⟩, fun _ q => ⟨q, Nat.le_refl _, Nat.le_of_eq hl, .inl rfl⟩, fun i H v H' _ q ⟨T, x, y, h1, h2, h3, h4, h5⟩ => ⟨T, x, y, h1, h2, h3, h4, h5⟩⟩
end K2

namespace K2
open PySem L2
theorem pg_tupK {X : Cx} {es : List Expr} {k : Nat} {t : TGs} {n : Nat} {pos : Pos} (K : PySem.W.Frag) (hK : X.K = K) (hc : X.calm = true) (h : PGs X es t)
    (hn : (assignEach es X.env).length = n := by rfl) (hst : (assignEach es X.env).findIdx? (·.1) = none := by rfl) : PG X (.Tuple es k pos) (gTup K n t) := by
  subst hK
  exact pg_tup hc h hn hst
theorem atI_neg1 {xs : List V} {v : V} (h : xs[xs.length - 1]? = some v) : atI xs (-1) = some v := by
  rcases List.eq_nil_or_concat xs with rfl | ⟨l, b, rfl⟩
  · simp at h
  · rw [List.concat_eq_append] at h ⊢
    rw [List.length_append, List.getElem?_append_right (by show _ ≤ l.length + 1 - 1; omega)] at h
    have : l.length + [b].length - 1 - l.length = 0 := by show l.length + 1 - 1 - l.length = 0; omega
    rw [this] at h
    obtain rfl := Option.some.inj h
    exact atI_last l _
theorem andF2 {b : Bool} {A B : Prop} (h1 : b = true → B → A) (h2 : B) : if b = true then A else B := by
  cases b
  · exact h2
  · exact h1 rfl h2
def mx (d : D) : Int := (d.h - d.l) / d.s
def bls (ds : List D) (c : List Int) : List Bool := List.zipWith (fun d x => decide (x ≤ mx d)) ds c
theorem bls_all : ∀ (ds : List D) (c : List Int), (bls ds c).all id = inBx ds c
  | [], _ => by unfold inBx; rfl
  | _ :: _, [] => by unfold inBx; rfl
  | d :: ds, x :: c => by
    show (decide (x ≤ mx d) && (bls ds c).all id) = (decide (x ≤ (d.h - d.l) / d.s) && inBx ds c)
    rw [bls_all ds c]
    rfl
theorem bls_at {ds : List D} {c : List Int} {j : Nat} (hc : j < c.length) (hd : j < ds.length) : (bls ds c)[j]? = some (decide (c[j] ≤ mx ds[j])) := by
  unfold bls
  rw [List.getElem?_eq_getElem (by rw [List.length_zipWith]; omega), List.getElem_zipWith]
theorem rep_lt {α : Type} {p : List α → Nat → Re α} (hp : ∀ l n a m, p l n = .ok (a, m) → n < m) : ∀ {k n : Nat} {l : List α} {m : Nat}, rep p k n = .ok (l, m) → n + k ≤ m
  | 0, n, l, m, h => by
    injection h with h
    injection h with h1 h2
    omega
  | k + 1, n, l, m, h => by
    obtain ⟨l1, m1, e1, h⟩ := bd_inv h
    obtain ⟨b, j, e2, h⟩ := bd_inv h
    injection h with h
    injection h with h1 h2
    have := rep_lt hp e1
    have := hp _ _ _ _ e2
    omega
theorem rep_le {α : Type} {p : List α → Nat → Re α} (hp : ∀ l n a m, p l n = .ok (a, m) → n ≤ m) : ∀ {k n : Nat} {l : List α} {m : Nat}, rep p k n = .ok (l, m) → n ≤ m
  | 0, n, l, m, h => by
    injection h with h
    injection h with h1 h2
    omega
  | k + 1, n, l, m, h => by
    obtain ⟨l1, m1, e1, h⟩ := bd_inv h
    obtain ⟨b, j, e2, h⟩ := bd_inv h
    injection h with h
    injection h with h1 h2
    have := rep_le hp e1
    have := hp _ _ _ _ e2
    omega
theorem p4_lt {os : List Int} {v : Int} {n m : Nat} (h : p4 os n = .ok (v, m)) : n < m ∧ m ≤ os.length := by
  obtain ⟨xs, j, e, h⟩ := bd_inv h
  obtain ⟨a1, _, a3⟩ := tk_ok e
  injection h with h
  injection h with h1 h2
  omega
theorem pck_lt {ds : List D} {os : List Int} {l : List Ck} {n m : Nat} {a : Ck} (h : pck ds os l n = .ok (a, m)) : n < m := by
  obtain ⟨c, j, e, h⟩ := bd_inv h
  have h0 := rep_le (fun _ _ _ _ z => Nat.le_of_lt (p4_lt z).1) e
  split at h
  · obtain ⟨_, _, e2, h⟩ := bd_inv h
    obtain ⟨_, _, e3, h⟩ := bd_inv h
    injection h with h
    injection h with h1 h2
    have := (p4_lt e2).1
    have := (p4_lt e3).1
    omega
  · cases h
theorem chk_ok {ds : List D} {ts : List T} (h : chk ds ts = true) : ds.length ≤ 6 ∧ 1 ≤ ds.length ∧ ∀ d ∈ ds, okD d = true := by
  unfold chk at h
  rw [Bool.and_eq_true, Bool.and_eq_true] at h
  have h1 := of_decide_eq_true h.1.1
  refine ⟨h1.2, h1.1, ?_⟩
  have key : ∀ (L : List (Str × Bool)) (ns : List Str), names ns L = true → ∀ x ∈ L, x.2 = true := by
    intro L
    induction L with
    | nil => intro ns _ x hx; cases hx
    | cons y r ih =>
      intro ns e x hx
      obtain ⟨n, g⟩ := y
      unfold names at e
      rw [Bool.and_eq_true, Bool.and_eq_true] at e
      rcases List.mem_cons.mp hx with rfl | hx
      · exact e.1.1
      · exact ih _ e.2 x hx
  intro d hd
  exact key _ _ h.2 (d.n, okD d) (List.mem_append_left _ (List.mem_map.mpr ⟨d, hd, rfl⟩))
structure Okd (d : D) : Prop where
  l0 : -1000000 ≤ d.l
  lh : d.l ≤ d.h
  h1 : d.h ≤ 1000000
  s0 : 1 ≤ d.s
  s1 : d.s ≤ 1000000
theorem okd_of {d : D} (h : okD d = true) : Okd d := by
  unfold okD at h
  rw [Bool.and_eq_true, Bool.and_eq_true, Bool.and_eq_true, Bool.and_eq_true, Bool.and_eq_true] at h
  exact ⟨of_decide_eq_true h.2.1.1, of_decide_eq_true h.2.1.2.1, of_decide_eq_true h.2.1.2.2, of_decide_eq_true h.2.2.1, of_decide_eq_true h.2.2.2⟩
theorem CkAt.ex {CO : Addr} {H H1 : Hp} {r lo : Addr} {os : List Int} {n : Nat} {x : V} {c : Ck} (h : CkAt H x c) (e : Ex H H1 r) (rd : RdAt CO H r lo os n) : CkAt H1 x c := by
  obtain ⟨a, b, e1, e2, e3⟩ := h
  obtain ⟨dr, er⟩ := rd.i
  exact ⟨a, b, e1, e _ _ e2 (ne_of e2 er (by intro z; cases z)), e _ _ e3 (ne_of e3 er (by intro z; cases z))⟩
/-- as rep_lc, as often as a tuple is long -/
theorem rep_lcT {α : Type} {R : Hp → V → α → Prop} {p : List Int → Nat → Re α} {CO CT CD r lo D a : Addr} {os : List Int} {E : XK} {te : TE} {σ : St} {vs : List Nat} {H : Hp} {n j : Nat} {Qd : Hp → Prop} {K : PySem.W.Frag} {xs : List V}
    (rd : RdAt CO H r lo os n) (nD : H D = none) (hk : xs.length ≤ 900) (mon : ∀ H1 H2 v a, Kp H1 H2 → R H1 v a → R H2 v a) (hl : ∀ H', Ex H H' r → SqT K H' a xs)
    (hw : ∀ x, wipe ((wipe σ vs).set j (some x)) vs = wipe σ vs)
    (hel : ∀ x H2 Q m, RdAt CO H2 r lo os m → Pst CO CT CD H2 r lo os (p os m) R Q E → te ((wipe σ vs).set j (some x)) H2 Q)
    (bad : ∀ t i, rep (fun _ => p os) xs.length n = .error (t, i) → ∀ H' d, Ex H H' r → H' d = some (erD t i) → E (.ref (if t then CT else CD)) (some d) H')
    (good : ∀ l m H' ys, rep (fun _ => p os) xs.length n = .ok (l, m) → Ex H H' r → RdAt CO H' r lo os m → H' D = some (.lst ys) → All (R H') ys l → Qd H') :
    ∃ W : Nat → Nat → Hp → Prop, (∃ m, W 0 m (upd H D (.lst []))) ∧ ∀ i m H, W i m H →
      ((Itt K a).stop i H ∧ Qd H) ∨ ((Itt K a).go i H ∧ ∃ Nx : Hp → Prop, (∀ H', Nx H' → ∃ m', m' < m ∧ W (i + 1) m' H') ∧ ∀ x H', (Itt K a).yld i H x H' → gName j x (wipe σ vs) H' fun σ2 H2 => wipe σ2 vs = wipe σ vs ∧ tYes σ2 H2 fun b H3 =>
        if b = true then te σ2 H3 fun y H4 => ∃ acc, H4 D = some (.lst acc) ∧ acc.length < sizeLine ∧ Nx (upd H4 D (.lst (acc ++ [y]))) else Nx H3) := by
  have nDr := rd_ne rd nD
  refine lc_tup (xs := xs) (fun i H2 => ∃ l m ys, rep (fun _ => p os) i n = .ok (l, m) ∧ Ex H H2 r ∧ RdAt CO H2 r lo os m ∧ H2 D = some (.lst ys) ∧ All (R H2) ys l) ?_ ?_ ?_ ?_
  · exact ⟨[], n, [], rfl, Same.ex (same_new nD), rd.same (same_new nD), upd_same, All.nil⟩
  · rintro i H2 hi ⟨l, m, ys, er, ex, rd2, eD, al⟩
    exact hl H2 ex
  · rintro i x H2 hx ⟨l, m, ys, er, ex, rd2, eD, al⟩
    have hi : i < xs.length := (List.getElem?_eq_some_iff.mp hx).1
    refine ⟨hw _, ?_⟩
    dsimp only [tYes]
    rw [if_pos rfl]
    refine hel _ H2 _ m rd2 ⟨fun a j e H' v x2 rd3 rl => ?_, fun t ii e H' d x2 hd => ?_⟩
    · have eD' := x2 _ _ eD nDr
      have xl := al.1
      rw [rep_len er] at xl
      have kp : Kp H2 (upd H' D (.lst (ys ++ [v]))) := kp_put (x2.kp rd2) eD'
      refine ⟨ys, eD', small1000 (by omega), l ++ [a], j, ys ++ [v], ?_, (ex.trans x2).put nD, RdAt.put rd rd3 nD, upd_same, All.push (al.imp fun y b h => mon _ _ _ _ kp h) (mon _ _ _ _ (kp_put (fun b xs e => e) eD') rl)⟩
      rw [rep_succ er, bd_ok e]
    · exact bad t ii (rep_err (Nat.succ_le_of_lt hi) (by rw [rep_succ er, bd_err e])) H' d (ex.trans x2) hd
  · rintro H2 ⟨l, m, ys, er, ex, rd2, eD, al⟩
    exact good l m H2 ys er ex rd2 eD al
theorem all_ints {H : Hp} {ys : List V} {l : List Int} (h : All (RInt H) ys l) : ys = l.map V.int := by
  refine List.ext_getElem? fun i => ?_
  by_cases hi : i < l.length
  · obtain ⟨x, e1, e2⟩ := h.2 i l[i] (List.getElem?_eq_getElem hi)
    rw [e1, List.getElem?_map, List.getElem?_eq_getElem hi]
    exact congrArg some e2
  · rw [List.getElem?_eq_none (by rw [h.1]; omega), List.getElem?_eq_none (by rw [List.length_map]; omega)]
theorem last_at {α : Type} {l : List α} {x : α} (h : l.getLast? = some x) : l[l.length - 1]? = some x := by rw [← h, List.getLast?_eq_getElem?]
def RCs : Hp → V → List Ck → Prop := fun H v cs => TupAt H (CkAt H) v cs
section
variable {P : Program} {w : World} {K : PySem.W.Frag} {mg : Str → Option Value} {base : Heap}
def spRC (CO CT CD C : Addr) : Sp := fun vs H Q E => ∃ (r lo : Addr) (v : V) (os : List Int) (n : Nat) (ds : List D) (ts : List T), vs = [.ref r, v] ∧ RdAt CO H r lo os n ∧ Os os ∧ ShAt H C v ds ts ∧ chk ds ts = true ∧ Pst CO CT CD H r lo os (pcks ds os n) RCs Q E
theorem scRC : FnScope ["reader", "shape", "last", "chunks", "_", "first", "chunk", "offset", "name", "low", "high", "step", "index", "most"] ["reader", "shape"] (defScope sReadChunks) := ⟨rfl, rfl, rfl, by decide +kernel, rfl, by decide +kernel, by decide +kernel⟩
theorem ok_rc {f fI CO CT CD C : Addr} {fd : FuncData} (F : Fun K "read_chunks" "read_chunks" sReadChunks f fd) (M : Nm mg) (hall : mg "all" = none) (Z : RFX P w K mg base CO CT CD) (S : KC K C fI SHf) : FnOk P w K mg base (L2.CX P w) 5 f fd ["reader", "shape"] (spRC CO CT CD C) := by
  have G4 := Z.G4
  have T := Z.T
  have GE := Z.Z.GE
  refine F.okX scRC (fun vs H Q E h => ?_) (fun cdv A outer s H vs Q E hr h => ?_)
  · obtain ⟨r, lo, v, os, n, ds, ts, rfl, _⟩ := h
    rfl
  · obtain ⟨r, lo, v, os, n, ds, ts, rfl, rd, O, sh, hchk, q⟩ := h
    have hr2 := hr.mono (j := 2) (by decide)
    refine ⟨_, Evl.pss_cut (ps_setLc (i := 2) (own := [("name", 8), ("low", 9), ("high", 10), ("step", 11)]) (g := gTup K 4 (gCons (gName 8) (gCons (gName 9) (gCons (gName 10) (gCons (gName 11) gNil))))) (tt := tYes) rfl scRC.nd rfl rfl (sw_true rfl rfl rfl (by decide +kernel)) (pi_tup (pe_fld (pv 1) rfl))
          (blkOk_by (N := ["reader", "shape", "last", "chunks", "_", "first", "chunk", "offset", "name", "low", "high", "step", "index", "most"]) (sc := defScope sReadChunks) (by decide +kernel))
          (fun _ _ _ _ _ => pg_tupK K rfl (by rfl) (pgs_cons (pg_name (i := 8) scRC.nd rfl (Or.inl rfl)) (pgs_cons (pg_name (i := 9) scRC.nd rfl (Or.inl rfl)) (pgs_cons (pg_name (i := 10) scRC.nd rfl (Or.inl rfl)) (pgs_cons (pg_name (i := 11) scRC.nd rfl (Or.inl rfl)) pgs_nil)))))
          (fun _ _ _ _ _ => pts_nil) (fun _ _ _ _ _ => pe_op op_fdiv (pe_op op_sub (pv 10) (pv 9)) (pv 11)))
      (pss_cons (ps_set (i := 3) scRC.nd rfl (.inl rfl) (pe_lst pa_nil))
      (pss_cons (ps_for (passes_of rfl) rfl (pi_range1 (by rfl) M.range (pa_cons (pe_methX0 (pv 0) T.cl Z.m4 G4 hr Z.b4 (fun σ => passAt (takes_of rfl rfl rfl rfl) σ)) pa_nil)) (pg_name (i := 4) scRC.nd rfl (.inl rfl))
        (pss_cons (ps_set (i := 5) scRC.nd rfl (.inl rfl) (pe_fld (pv 0) rfl))
        (pss_cons (ps_set (i := 6) scRC.nd rfl (.inl rfl) (pe_callTy call_tuple_of (by rfl) M.tuple (by decide +kernel) (pa_cons
            (pe_lcX (own := [("_", 4)]) (g := gName 4) (tt := tYes) rfl rfl (takes_of rfl rfl rfl rfl) rfl scRC.nd (pi_tup (pe_fld (pv 1) rfl)) (blkOk_by (N := ["reader", "shape", "last", "chunks", "_", "first", "chunk", "offset", "name", "low", "high", "step", "index", "most"]) (sc := defScope sReadChunks) (by decide +kernel))
              (fun _ _ _ _ _ _ => pg_name (i := 4) scRC.nd rfl (Or.inl rfl)) (fun _ _ _ _ _ _ => pts_nil) (fun E _ _ _ _ _ => pe_methX0 (pv 0) T.cl Z.m4 G4 hr Z.b4 (fun σ => pass_blk σ))) pa_nil)))
        (pss_cons (ps_if (pt_not (pt_val (pe_callB (cr_all rfl) (by rfl) hall (by decide +kernel) (pa_cons
            (pe_lc (own := [("index", 12), ("most", 13)]) (g := gTup K 2 (gCons (gName 12) (gCons (gName 13) gNil))) (tt := tYes) rfl scRC.nd (pi_zipTL (by rfl) M.zip (pa_cons (pv 6) (pa_cons (pv 2) pa_nil))) (blkOk_by (N := ["reader", "shape", "last", "chunks", "_", "first", "chunk", "offset", "name", "low", "high", "step", "index", "most"]) (sc := defScope sReadChunks) (by decide +kernel))
              (fun _ _ _ _ _ => pg_tupK K rfl (by rfl) (pgs_cons (pg_name (i := 12) scRC.nd rfl (Or.inl rfl)) (pgs_cons (pg_name (i := 13) scRC.nd rfl (Or.inl rfl)) pgs_nil))) (fun _ _ _ _ _ => pts_nil) (fun _ _ _ _ _ => pe_cmpR op_le (pv 12) (pv 13) (nomark _))) pa_nil))))
            (pss_one (ps_raise rfl (takes_of rfl rfl rfl rfl) (pmk_oex Z.Z.D.oc Z.Z.D.iC Z.Z.D.tI GE hr2 Z.Z.bE .nil pass0 (by rfl) Z.Z.gD (pa_cons (pv 5) pa_nil)))) pss_nil)
        (pss_cons (ps_if (PW.pt (pw_and (pt_truth (pv 3) (by intro _; rfl)) (pw_and1 (pt_cmpR (op_geT hr.units0) (pe_ix ix_tup (pe_ix ix_list (pv 3) (pe_un un_neg pe_int) (fun _ _ => rfl)) pe_int (fun _ _ => rfl)) (pv 6) (nomark _)))))
            (pss_one (ps_raise rfl (takes_of rfl rfl rfl rfl) (pmk_oex Z.Z.D.oc Z.Z.D.iC Z.Z.D.tI GE hr2 Z.Z.bE .nil pass0 (by rfl) Z.Z.gD (pa_cons (pv 5) pa_nil)))) pss_nil)
        (pss_cons (ps_set (i := 7) scRC.nd rfl (.inl rfl) (pe_methX0 (pv 0) T.cl Z.m4 G4 hr Z.b4 (fun σ => passAt (takes_of rfl rfl rfl rfl) σ)))
        (pss_one (ps_expr (pe_bm PySem.F.plainAttrs_list PySem.F.slot_list_append PySem.F.type_list_append mt_append (pv 3) (pa_cons (pe_tup (pa_cons (pv 6) (pa_cons (pv 7) (pa_cons (pe_methX0 (pv 0) T.cl Z.m4 G4 hr Z.b4 (fun σ => passAt (takes_of rfl rfl rfl rfl) σ)) pa_nil)))) pa_nil))))))))))
      (pss_one (ps_ret (pe_callTy call_tuple_of (by rfl) M.tuple (by decide +kernel) (pa_cons (pv 3) pa_nil)))))), ?_⟩
    obtain ⟨a, dx, v1, v2, rfl, ha, ⟨td, xs, rfl, htd, had⟩, _⟩ := sh
    have hxl := had.1
    have n1 : NoAttr K C "dims" := S.na _ (by decide +kernel)
    obtain ⟨dl6, dl1, okd⟩ := chk_ok hchk
    have nar : a ≠ r := by
      obtain ⟨dr, er⟩ := rd.i
      refine ne_of ha er ?_
      intro z
      injection z with _ _ z
      injection z with z _
      injection z with z _
      exact absurd z (by decide +kernel)
    have ntd : td ≠ r := by
      obtain ⟨dr, er⟩ := rd.i
      exact ne_of htd er (by intro z; cases z)
    have q0 : Pst CO CT CD H r lo os (bd (p4 os n) fun k m => rep (pck ds os) k.toNat m) RCs Q E := q
    refine ⟨fun σ H2 => ∃ pl, σ = [some (.ref r), some (.ref a), some (.ref pl), none, none, none, none, none, none, none, none, none, none, none] ∧ Same H H2 ∧ H2 pl = some (.lst ((ds.map mx).map V.int)), ?_, ?_⟩
    · refine ⟨_, rfl, a, C, dx, _, .ref td, rfl, ha, S.cl, n1, rfl, td, rfl, ⟨_, SqT.of htd⟩, fun D nD => lc_tup (xs := xs) (fun i H2 => Same H H2 ∧ H2 D = some (.lst (((ds.take i).map mx).map V.int))) ?_ ?_ ?_ ?_⟩
      · exact ⟨same_new nD, upd_same⟩
      · rintro i H2 hi ⟨s2, _⟩
        exact SqT.of (s2 _ _ htd)
      · rintro i x H2 hx ⟨s2, eD⟩
        have hi : i < ds.length := by
          rw [← hxl]
          exact (List.getElem?_eq_some_iff.mp hx).1
        obtain ⟨b, rfl, hb⟩ := had.at hi hx
        have gd := okd_of (okd _ (List.getElem_mem hi))
        have h3 := gd.s0
        have h4 := gd.s1
        refine ⟨b, _, rfl, SqT.of (s2 _ _ hb), rfl, _, _, rfl, _, _, rfl, _, _, rfl, _, _, rfl, rfl, rfl, ?_⟩
        dsimp only [tYes]
        rw [if_pos rfl]
        refine ⟨_, rfl, _, rfl, _, _, rfl, rfl, _, rfl, _, _, rfl, rfl, ⟨by omega, by omega⟩, _, eD, ?_, ?_, ?_⟩
        · rw [List.length_map, List.length_map, List.length_take]
          exact small1000 (by omega)
        · intro z o e
          rw [upd_ne (fun y => by rw [y, nD] at e; cases e)]
          exact s2 _ _ e
        · rw [upd_same, List.take_add_one, List.getElem?_eq_getElem hi, List.map_append, List.map_append]
          rfl
      · rintro H2 ⟨s2, eD⟩
        rw [hxl, List.take_length] at eD
        exact ⟨D, rfl, s2, eD⟩
    rintro σ H2 ⟨pl, rfl, s2, epl⟩
    have rd2 := rd.same s2
    have nplr : pl ≠ r := by
      obtain ⟨dr, er⟩ := rd2.i
      exact ne_of epl er (by intro z; cases z)
    refine ⟨Nat.zero_le _, fun pc npc => ?_⟩
    have npcH : H pc = none := s2.free npc
    have s3 : Same H2 (upd H2 pc (.lst [])) := same_new npc
    have rd3 := rd2.same s3
    obtain ⟨dr, er⟩ := rd3.i
    have npcr : pc ≠ r := rd_ne rd2 npc
    have s03 : Same H (upd H2 pc (.lst [])) := s2.trans s3
    refine ⟨_, rfl, r, dr, _, rfl, er, rfl, r, lo, os, n, rfl, rd3, O, ⟨fun k m0 ek H4 v4 x4 rd4 rl4 => ?_, fun t i et H' d ex hd => q0.bad et ((Same.ex s03).trans ex) hd⟩⟩
    obtain rfl : v4 = .int k := rl4
    have x04 : Ex H H4 r := (Same.ex s03).trans x4
    have q1 := q0.next ek x04
    have kb := (p4_ok ek O).1
    have htd4 := x4 _ _ (s03 _ _ htd) ntd
    refine ⟨k, rfl, by omega, by omega, for_range (lo := 0) (n := k.toNat) (fun i σ H5 => ∃ y4 y5 y6 y7 ws l m, σ = [some (.ref r), some (.ref a), some (.ref pl), some (.ref pc), y4, y5, y6, y7, none, none, none, none, none, none] ∧ rep (pck ds os) i m0 = .ok (l, m) ∧ Ex H H5 r ∧ RdAt CO H5 r lo os m ∧ H5 pl = some (.lst ((ds.map mx).map V.int)) ∧ H5 pc = some (.lst ws) ∧ All (CkAt H5) ws l) ?_ ?_ ?_⟩
    · exact ⟨_, _, _, _, [], [], m0, rfl, rfl, x04, rd4, x4 _ _ (s3 _ _ epl) nplr, x4 _ _ upd_same npcr, All.nil⟩
    · rintro i σ H5 hi ⟨y4, y5, y6, y7, ws, l, m, rfl, er5', x5, rd5, epl5, epc5, al⟩
      have xl := al.1
      rw [rep_len er5'] at xl
      have hm := rd5.le
      have hol := O.l
      have hil := rep_lt (fun _ _ _ _ z => pck_lt z) er5'
      have st0 : Pst CO CT CD H5 r lo os (pck ds os l m) (fun _ _ _ => True) (fun _ _ => True) E := ⟨fun _ _ _ _ _ _ _ _ => trivial, fun t ii e H' d x2 hd => q0.no t ii (by rw [bd_ok ek]; exact rep_err (Nat.succ_le_of_lt hi) (by rw [rep_succ er5', bd_err e])) H' d (x5.trans x2) hd⟩
      have st : Pst CO CT CD H5 r lo os (bd (rep (fun _ => p4 os) ds.length m) fun c j => if inBx ds c = true ∧ (∀ x ∈ l.getLast?, HT.lexLt x.c c = true) then bd (p4 os j) fun o m => bd (p4 os m) fun len m => .ok (⟨c, o, len⟩, m) else .error (false, m)) (fun _ _ (_ : Ck) => True) (fun _ _ => True) E := st0
      obtain ⟨dr5, er5⟩ := rd5.i
      have ha5 := x5 _ _ ha nar
      have htd5 := x5 _ _ htd ntd
      have kx : ∀ {H6 : Hp}, Ex H5 H6 r → H6 a = some (.ins C dx [("dims", .ref td), ("attrs", v2)]) ∧ H6 td = some (.tup xs) ∧ H6 pl = some (.lst ((ds.map mx).map V.int)) ∧ H6 pc = some (.lst ws) := fun y => ⟨y _ _ ha5 nar, y _ _ htd5 ntd, y _ _ epl5 nplr, y _ _ epc5 npcr⟩
      refine ⟨_, rfl, r, CO, dr5, _, .int (m : Int), rfl, er5, T.cl, T.na _ (by decide +kernel), rfl, ?_⟩
      rw [← hxl] at st
      refine ⟨_, rfl, a, C, dx, _, .ref td, rfl, ha5, S.cl, n1, rfl, td, rfl, ⟨_, SqT.of htd5⟩, fun D nD => rep_lcT (R := RInt) (xs := xs) rd5 nD (by omega) (fun _ _ _ _ _ h => h) (fun H' x => SqT.of (kx x).2.1) (fun _ => rfl)
        (fun x H2 Q m rd2 ps => let ⟨dr2, er2⟩ := rd2.i; ⟨_, rfl, r, dr2, _, rfl, er2, rfl, r, lo, os, m, rfl, rd2, O, ps⟩) (fun t i er H' d x2 hd => st.bad er x2 hd) (fun c j H6 ys erc x6 rd6 eD alc => ?_)⟩
      have st2 := st.next erc x6
      have clen := rep_len erc
      have cl : c.length = ds.length := by rw [clen, hxl]
      obtain rfl := all_ints alc
      obtain ⟨ha6, htd6, epl6, epc6⟩ := kx x6
      refine ⟨D, _, rfl, .inl ⟨.inl (.inl eD), fun t nt => ?_⟩⟩
      have s7 := same_new (o := .tup (c.map V.int)) nt
      have hl : (c.map V.int).length = ((ds.map mx).map V.int).length := by rw [List.length_map, List.length_map, List.length_map, cl]
      refine ⟨_, rfl, _, rfl, t, pl, _, _, rfl, ⟨SqT.of upd_same, .inl (.inl (s7 _ _ epl6))⟩, fun D2 nD2 => lc_it (walk_zipTL hl) (fun j H8 => Same (upd H6 t (.tup (c.map V.int))) H8 ∧ H8 D2 = some (.lst (((bls ds c).take j).map V.bl))) ⟨same_new nD2, upd_same⟩ ?_ ?_ ?_⟩
      · rintro j H8 hj ⟨s8, _⟩
        exact ⟨SqT.of (s8 _ _ upd_same), .inl (.inl (s8 _ _ (s7 _ _ epl6)))⟩
      · rintro j x H8 H8' hj ⟨s8, e8⟩ ⟨T2, x1, x2, rfl, nT, rfl, f1, f2⟩
        rw [List.length_map] at hj
        have hj3 : j < ds.length := cl ▸ hj
        have f1 : (c.map V.int)[j]? = some x1 := f1
        have f2 : ((ds.map mx).map V.int)[j]? = some x2 := f2
        rw [List.getElem?_map, List.getElem?_eq_getElem hj] at f1
        rw [List.getElem?_map, List.getElem?_map, List.getElem?_eq_getElem hj3] at f2
        obtain rfl := Option.some.inj f1
        obtain rfl := Option.some.inj f2
        refine ⟨T2, _, rfl, SqT.of upd_same, rfl, _, _, rfl, _, _, rfl, rfl, rfl, ?_⟩
        dsimp only [tYes]
        rw [if_pos rfl]
        refine ⟨_, rfl, _, rfl, _, _, rfl, rfl, _, same_new nT _ _ e8, ?_, ?_, ?_⟩
        · rw [List.length_map, List.length_take]
          exact small1000 (by omega)
        · intro z o e
          rw [upd_ne (fun y => by rw [y, nD2] at e; cases e)]
          exact same_new nT _ _ (s8 _ _ e)
        · rw [upd_same, List.take_add_one, bls_at hj hj3, List.map_append]
          rfl
      · rintro H8 ⟨s8, e8⟩
        have bl : (bls ds c).length = (c.map V.int).length := by
          unfold bls
          rw [List.length_zipWith, List.length_map]
          omega
        rw [← bl, List.take_length] at e8
        refine ⟨D2, _, rfl, .inl (.inl e8), ?_⟩
        rw [bls_all]
        have s68 : Same H6 H8 := s7.trans s8
        have x58 : Ex H5 H8 r := x6.same s68
        have rd8 := rd6.same s68
        have st3 := st2.mv (Same.ex s68)
        obtain ⟨ha8, htd8, epl8, epc8⟩ := kx x58
        have et8 : H8 t = some (.tup (c.map V.int)) := s8 _ _ upd_same
        cases hbx : inBx ds c with
        | false =>
          have hbad : ¬ (inBx ds c = true ∧ (∀ x ∈ l.getLast?, HT.lexLt x.c c = true)) := fun z => by rw [hbx] at z; cases z.1
          exact ⟨false, rfl, iteT ⟨_, rfl, rz Z.Z.D fun d H' s hd => st3.no false m (if_neg hbad) H' d (Same.ex s) hd⟩⟩
        | true =>
          refine ⟨true, rfl, iteF ⟨_, rfl, !ws.isEmpty, .inl ⟨ws, .inl (.inl epc8), rfl⟩, ?_⟩⟩
          by_cases hup : ∀ x ∈ l.getLast?, HT.lexLt x.c c = true
          case neg =>
            have hbad : ¬ (inBx ds c = true ∧ (∀ x ∈ l.getLast?, HT.lexLt x.c c = true)) := fun z => hup z.2
            obtain ⟨x, hx, hlt⟩ : ∃ x, l.getLast? = some x ∧ HT.lexLt x.c c = false := by
              cases e : l.getLast? with
              | none => exact absurd (fun x hx => by rw [e] at hx; cases hx) hup
              | some x =>
                refine ⟨x, rfl, Bool.eq_false_iff.mpr fun z => hup fun y hy => ?_⟩
                rw [e] at hy
                cases hy
                exact z
            obtain ⟨y, hy, cy⟩ := al.2 _ _ (last_at hx)
            obtain ⟨b', u', rfl, f1, f2⟩ := cy.ex x58 rd5
            have wne : (!ws.isEmpty) = true := by
              cases ws with
              | nil => simp at hy
              | cons _ _ => rfl
            refine iteB wne ⟨_, rfl, 1, rfl, pc, ws, -1, .ref b', rfl, rfl, .inl (.inl epc8), atI_neg1 (by rw [al.1]; exact hy), b', _, 0, .ref u', rfl, rfl, SqT.of f1, rfl, _, rfl, u', t, x.c, c, rfl, rfl, SqT.of f2, SqT.of et8, _, rfl, ?_⟩
            rw [hlt]
            exact iteT ⟨_, rfl, rz Z.Z.D fun d H' s hd => st3.no false m (if_neg hbad) H' d (Same.ex s) hd⟩
          rw [if_pos ⟨hbx, hup⟩] at st3
          refine andF2 (fun hb k => ?_) (iteF ?_)
          · obtain ⟨x, hx⟩ : ∃ x, l.getLast? = some x := by
              cases e : l.getLast? with
              | none =>
                have : l = [] := List.getLast?_eq_none_iff.mp e
                have w0 : ws = [] := List.eq_nil_of_length_eq_zero (by rw [al.1, this]; rfl)
                rw [w0] at hb
                cases hb
              | some x => exact ⟨x, rfl⟩
            obtain ⟨y, hy, cy⟩ := al.2 _ _ (last_at hx)
            obtain ⟨b', u', rfl, f1, f2⟩ := cy.ex x58 rd5
            refine ⟨_, rfl, 1, rfl, pc, ws, -1, .ref b', rfl, rfl, .inl (.inl epc8), atI_neg1 (by rw [al.1]; exact hy), b', _, 0, .ref u', rfl, rfl, SqT.of f1, rfl, _, rfl, u', t, x.c, c, rfl, rfl, SqT.of f2, SqT.of et8, _, rfl, ?_⟩
            rw [hup x hx]
            exact k
          · obtain ⟨dr8, er8⟩ := rd8.i
            refine ⟨_, rfl, r, dr8, _, rfl, er8, rfl, r, lo, os, j, rfl, rd8, O, ⟨fun o m2 eo H9 v9 x9 rd9 rl9 => ?_, fun t i e H' d x hd => st3.bad e x hd⟩⟩
            obtain rfl : v9 = .int o := rl9
            have st5 := st3.next eo x9
            obtain ⟨dr9, er9⟩ := rd9.i
            have x59 := x58.trans x9
            refine ⟨_, rfl, .inl ⟨rfl, _, .inl (.inl (kx x59).2.2.2)⟩, _, rfl, _, rfl, _, rfl, r, dr9, _, rfl, er9, rfl, r, lo, os, m2, rfl, rd9, O, ⟨fun len m3 el H10 v10 x10 rd10 rl10 => ⟨(by show 3 ≤ sizeLine; decide), fun t2 nt2 => ?_⟩, fun t i e H' d x hd => st5.bad e x hd⟩⟩
            obtain rfl : v10 = .int len := rl10
            have x510 := x59.trans x10
            obtain ⟨ha10, htd10, epl10, epc10⟩ := kx x510
            have s11 := same_new (o := .tup [.ref t, .int o, .int len]) nt2
            have ntr : t ≠ r := ne_of et8 er8 (by intro z; cases z)
            have et10 : H10 t = some (.tup (c.map V.int)) := x10 _ _ (x9 _ _ et8 ntr) ntr
            have epc11 := s11 _ _ epc10
            have epk : pck ds os l m = .ok (⟨c, o, len⟩, m3) := by
              unfold pck
              rw [hxl] at erc
              rw [bd_ok erc, if_pos ⟨hbx, hup⟩, bd_ok eo, bd_ok el]
            refine ⟨pc, ws, .ref t2, rfl, rfl, epc11, big (by omega), _, _, _, _, ws ++ [.ref t2], l ++ [⟨c, o, len⟩], m3, rfl, by rw [rep_succ er5', bd_ok epk], ((x5.trans x510).same s11).put npcH, RdAt.put rd (rd10.same s11) npcH, ?_, upd_same, ?_⟩
            · rw [upd_ne (ne_of_none epl npc)]
              exact s11 _ _ epl10
            · have kt := kt_upd (ys := ws ++ [.ref t2]) epc11
              exact All.push (al.imp fun y c h => ((h.ex x510 rd5).same s11).kt kt) ⟨t2, t, rfl, kt _ _ upd_same (fun _ z => nomatch z), kt _ _ (s11 _ _ et10) (fun _ z => nomatch z)⟩
    · rintro σ H5 ⟨y4, y5, y6, y7, ws, l, m, rfl, er5', x5, rd5, epl5, epc5, al⟩
      refine ⟨_, rfl, pc, ws, rfl, .inl ⟨.inl (.inl epc5), fun t nt => ?_⟩⟩
      have s6 := same_new (o := .tup ws) nt
      exact q0.ok _ _ (by rw [bd_ok ek]; exact er5') _ _ (x5.same s6) (rd5.same s6) ⟨t, ws, rfl, upd_same, al.imp fun y c h => h.same s6⟩
end
end K2

namespace K2
open PySem L2
theorem pcks_le {ds : List D} {os : List Int} {n m : Nat} {cs : List Ck} (h : pcks ds os n = .ok (cs, m)) : n ≤ m := by
  obtain ⟨_, _, e, h⟩ := bd_inv h
  have := (p4_lt e).1
  have := rep_le (fun _ _ _ _ z => Nat.le_of_lt (pck_lt z)) h
  omega
theorem pdim_le {os : List Int} {n m : Nat} {d : D} (h : pdim os n = .ok (d, m)) : n ≤ m := by
  obtain ⟨_, _, e, h⟩ := bd_inv h
  obtain ⟨_, _, e1, h⟩ := bd_inv h
  obtain ⟨_, _, e2, h⟩ := bd_inv h
  obtain ⟨_, _, e3, h⟩ := bd_inv h
  injection h with h
  injection h with h1 h2
  have := (pname_ok e).2.1
  have := (p4_lt e1).1
  have := (p4_lt e2).1
  have := (p4_lt e3).1
  omega
theorem pattr_le {os : List Int} {n m : Nat} {d : T} (h : pattr os n = .ok (d, m)) : n ≤ m := by
  obtain ⟨_, _, e, h⟩ := bd_inv h
  obtain ⟨_, _, e1, h⟩ := bd_inv h
  injection h with h
  injection h with h1 h2
  have := (pname_ok e).2.1
  have := (pof_ok e1).2.1
  omega
theorem pshape_ok {os : List Int} {n m : Nat} {x : List D × List T} (h : pshape os n = .ok (x, m)) : chk x.1 x.2 = true ∧ n ≤ m := by
  obtain ⟨_, _, e, h⟩ := bd_inv h
  obtain ⟨_, _, e1, h⟩ := bd_inv h
  obtain ⟨_, _, e2, h⟩ := bd_inv h
  obtain ⟨_, _, e3, h⟩ := bd_inv h
  have h1 := (p1_ok e).2.1
  have h2 := rep_le (fun _ _ _ _ z => pdim_le z) e1
  have h3 := (p1_ok e2).2.1
  have h4 := rep_le (fun _ _ _ _ z => pattr_le z) e3
  split at h
  · rename_i c
    injection h with h
    injection h with h1 h2
    subst h1
    exact ⟨c, by omega⟩
  · cases h
theorem parr_lt {os : List Int} {l : List Ar} {n m : Nat} {a : Ar} (h : parr os l n = .ok (a, m)) : n < m := by
  obtain ⟨_, _, e, h⟩ := bd_inv h
  have h1 := (pname_ok e).2.1
  split at h
  · obtain ⟨_, _, e1, h⟩ := bd_inv h
    obtain ⟨_, _, e2, h⟩ := bd_inv h
    injection h with h
    injection h with h3 h4
    have := (pshape_ok e1).2
    have := pcks_le e2
    omega
  · cases h
theorem parrs_le {os : List Int} {n m : Nat} {cs : List Ar} (h : parrs os n = .ok (cs, m)) : n ≤ m := by
  obtain ⟨_, _, e, h⟩ := bd_inv h
  have := (p4_lt e).1
  have := rep_le (fun _ _ _ _ z => Nat.le_of_lt (parr_lt z)) h
  omega
theorem p4i_ok {a b : Int} {os : List Int} {n m : Nat} {v : Int} (h : p4i a b os n = .ok (v, m)) : a ≤ v ∧ v ≤ b ∧ n < m ∧ m ≤ os.length := by
  obtain ⟨_, _, e, h⟩ := bd_inv h
  have := p4_lt e
  split at h
  · rename_i c
    injection h with h
    injection h with h3 h4
    subst h3 h4
    exact ⟨c.1, c.2, this.1, this.2⟩
  · cases h
theorem pver_lt {up : Int} {os : List Int} {l : List Ve} {n m : Nat} {a : Ve} (h : pver up os l n = .ok (a, m)) : n < m := by
  obtain ⟨_, _, e, h⟩ := bd_inv h
  obtain ⟨_, _, e1, h⟩ := bd_inv h
  injection h with h
  injection h with h3 h4
  have := (p4i_ok e).2.2.1
  have := parrs_le e1
  omega
theorem ArAt.ex {CO C : Addr} {H H1 : Hp} {r lo : Addr} {os : List Int} {n : Nat} {x : V} {c : Ar} (h : ArAt H C x c) (e : Ex H H1 r) (rd : RdAt CO H r lo os n) : ArAt H1 C x c := by
  obtain ⟨a, u, v, e1, e2, e3, ⟨b, xs, f1, f2, f3⟩⟩ := h
  obtain ⟨dr, er⟩ := rd.i
  exact ⟨a, u, v, e1, e _ _ e2 (ne_of e2 er (by intro z; cases z)), e3.ex e rd, b, xs, f1, e _ _ f2 (ne_of f2 er (by intro z; cases z)), f3.imp fun _ _ z => z.ex e rd⟩
theorem VeAt.ex {CO C : Addr} {H H1 : Hp} {r lo : Addr} {os : List Int} {n : Nat} {x : V} {c : Ve} (h : VeAt H C x c) (e : Ex H H1 r) (rd : RdAt CO H r lo os n) : VeAt H1 C x c := by
  obtain ⟨a, v, e1, e2, ⟨b, xs, f1, f2, f3⟩⟩ := h
  obtain ⟨dr, er⟩ := rd.i
  exact ⟨a, v, e1, e _ _ e2 (ne_of e2 er (by intro z; cases z)), b, xs, f1, e _ _ f2 (ne_of f2 er (by intro z; cases z)), f3.imp fun _ _ z => z.ex e rd⟩
def RAs (C : Addr) : Hp → V → List Ar → Prop := fun H v as => TupAt H (ArAt H C) v as
section
variable {P : Program} {w : World} {K : PySem.W.Frag} {mg : Str → Option Value} {base : Heap}
theorem scRAs : FnScope ["reader", "arrays", "_", "first", "name", "shape"] ["reader"] (defScope sReadArrays) := ⟨rfl, rfl, rfl, by decide +kernel, rfl, by decide +kernel, by decide +kernel⟩
theorem ok_ras {f fN fS fC CO CT CD C : Addr} {fd fdN fdS fdC : FuncData} (F : Fun K "read_arrays" "read_arrays" sReadArrays f fd) (M : Nm mg) (Z : RFX P w K mg base CO CT CD)
    (GN : FnOk P w K mg base (L2.CX P w) 4 fN fdN ["reader"] (spP CO CT CD RStr pname)) (kN : PySem.W.keepIn K (.ref fN) = true) (bN : Binds K fdN ["reader"] []) (gN : mg "read_name" = some (.ref fN))
    (GS : FnOk P w K mg base (L2.CX P w) 6 fS fdS ["reader"] (spP CO CT CD (RSp C) pshape)) (kS : PySem.W.keepIn K (.ref fS) = true) (bS : Binds K fdS ["reader"] []) (gS : mg "read_shape" = some (.ref fS))
    (GC : FnOk P w K mg base (L2.CX P w) 5 fC fdC ["reader", "shape"] (spRC CO CT CD C)) (kC : PySem.W.keepIn K (.ref fC) = true) (bC : Binds K fdC ["reader", "shape"] []) (gC : mg "read_chunks" = some (.ref fC)) :
    FnOk P w K mg base (L2.CX P w) 7 f fd ["reader"] (spP CO CT CD (RAs C) parrs) := by
  have G4 := Z.G4
  have T := Z.T
  have GE := Z.Z.GE
  refine F.okX scRAs (fun vs H Q E h => ?_) (fun cdv A outer s H vs Q E hr h => ?_)
  · obtain ⟨r, lo, os, n, rfl, _⟩ := h
    rfl
  · obtain ⟨r, lo, os, n, rfl, rd, O, q⟩ := h
    have hr2 := hr.mono (j := 2) (by decide)
    have hr4 := hr.mono (j := 4) (by decide)
    have hr5 := hr.mono (j := 5) (by decide)
    refine ⟨_, pss_cons (ps_set (i := 1) scRAs.nd rfl (.inl rfl) (pe_lst pa_nil))
      (pss_cons (ps_for (passes_of rfl) rfl (pi_range1 (by rfl) M.range (pa_cons (pe_methX0 (pv 0) T.cl Z.m4 G4 hr4 Z.b4 (fun σ => passAt (takes_of rfl rfl rfl rfl) σ)) pa_nil)) (pg_name (i := 2) scRAs.nd rfl (.inl rfl))
        (pss_cons (ps_set (i := 3) scRAs.nd rfl (.inl rfl) (pe_fld (pv 0) rfl))
        (pss_cons (ps_set (i := 4) scRAs.nd rfl (.inl rfl) (pe_callS GN hr4 (by rfl) gN kN bN (fun σ => passAt (takes_of rfl rfl rfl rfl) σ) (pa_cons (pv 0) pa_nil)))
        (pss_cons (ps_if (PW.pt (pw_and (pt_truth (pv 1) (by intro _; rfl)) (pw_and1 (pt_cmpR op_ge_str (pe_ix ix_tup (pe_ix ix_list (pv 1) (pe_un un_neg pe_int) (fun _ _ => rfl)) pe_int (fun _ _ => rfl)) (pv 4) (nomark _)))))
            (pss_one (ps_raise rfl (takes_of rfl rfl rfl rfl) (pmk_oex Z.Z.D.oc Z.Z.D.iC Z.Z.D.tI GE hr2 Z.Z.bE .nil pass0 (by rfl) Z.Z.gD (pa_cons (pv 3) pa_nil)))) pss_nil)
        (pss_cons (ps_set (i := 5) scRAs.nd rfl (.inl rfl) (pe_callS GS hr (by rfl) gS kS bS (fun σ => passAt (takes_of rfl rfl rfl rfl) σ) (pa_cons (pv 0) pa_nil)))
        (pss_one (ps_expr (pe_bm PySem.F.plainAttrs_list PySem.F.slot_list_append PySem.F.type_list_append mt_append (pv 1) (pa_cons (pe_tup (pa_cons (pv 4) (pa_cons (pv 5) (pa_cons (pe_callS GC hr5 (by rfl) gC kC bC (fun σ => passAt (takes_of rfl rfl rfl rfl) σ) (pa_cons (pv 0) (pa_cons (pv 5) pa_nil))) pa_nil)))) pa_nil)))))))))
      (pss_one (ps_ret (pe_callTy call_tuple_of (by rfl) M.tuple (by decide +kernel) (pa_cons (pv 1) pa_nil))))), ?_⟩
    have q0 : Pst CO CT CD H r lo os (bd (p4 os n) fun k m => rep (parr os) k.toNat m) (RAs C) Q E := q
    refine ⟨Nat.zero_le _, fun pc npc => ?_⟩
    have s3 : Same H (upd H pc (.lst [])) := same_new npc
    have rd3 := rd.same s3
    obtain ⟨dr, er⟩ := rd3.i
    have npcr : pc ≠ r := rd_ne rd npc
    refine ⟨_, rfl, r, dr, _, rfl, er, rfl, r, lo, os, n, rfl, rd3, O, ⟨fun k m0 ek H4 v4 x4 rd4 rl4 => ?_, fun t i et H' d ex hd => q0.bad et ((Same.ex s3).trans ex) hd⟩⟩
    obtain rfl : v4 = .int k := rl4
    have kb := (p4_ok ek O).1
    refine ⟨k, rfl, by omega, by omega, for_range (lo := 0) (n := k.toNat) (fun i σ H5 => ∃ y2 y3 y4 y5 ws l m, σ = [some (.ref r), some (.ref pc), y2, y3, y4, y5] ∧ rep (parr os) i m0 = .ok (l, m) ∧ Ex H H5 r ∧ RdAt CO H5 r lo os m ∧ H5 pc = some (.lst ws) ∧ All (ArAt H5 C) ws l) ?_ ?_ ?_⟩
    · exact ⟨_, _, _, _, [], [], m0, rfl, rfl, (Same.ex s3).trans x4, rd4, x4 _ _ upd_same npcr, All.nil⟩
    · rintro i σ H5 hi ⟨y2, y3, y4, y5, ws, l, m, rfl, er5', x5, rd5, epc5, al⟩
      have xl := al.1
      rw [rep_len er5'] at xl
      have hm := rd5.le
      have hol := O.l
      have hil := rep_lt (fun _ _ _ _ z => parr_lt z) er5'
      have st : Pst CO CT CD H5 r lo os (bd (pname os m) fun s j => if ∀ x ∈ l.getLast?, x.n.cps.toList < s.cps.toList then bd (pshape os j) fun sh j => bd (pcks sh.1 os j) fun cs j => .ok (⟨s, sh.1, sh.2, cs⟩, j) else .error (false, m)) (fun _ _ (_ : Ar) => True) (fun _ _ => True) E :=
        ⟨fun _ _ _ _ _ _ _ _ => trivial, fun t ii e H' d x2 hd => q0.no t ii (by rw [bd_ok ek]; exact rep_err (Nat.succ_le_of_lt hi) (by rw [rep_succ er5']; exact bd_err e)) H' d (x5.trans x2) hd⟩
      obtain ⟨dr5, er5⟩ := rd5.i
      refine ⟨_, rfl, r, CO, dr5, _, .int (m : Int), rfl, er5, T.cl, T.na _ (by decide +kernel), rfl, ?_⟩
      refine ⟨_, rfl, r, lo, os, m, rfl, rd5, O, ⟨fun s j es H6 v6 x6 rd6 rl6 => ?_, fun t i et H' d ex hd => st.bad et ex hd⟩⟩
      obtain rfl : v6 = .str s := rl6
      have st2 := st.next es x6
      have epc6 := x6 _ _ epc5 npcr
      refine ⟨_, rfl, !ws.isEmpty, .inl ⟨ws, .inl (.inl epc6), rfl⟩, ?_⟩
      by_cases hup : ∀ x ∈ l.getLast?, x.n.cps.toList < s.cps.toList
      case neg =>
        obtain ⟨x, hx, hlt⟩ : ∃ x, l.getLast? = some x ∧ ¬ x.n.cps.toList < s.cps.toList := by
          cases e : l.getLast? with
          | none => exact absurd (fun x hx => by rw [e] at hx; cases hx) hup
          | some x =>
            refine ⟨x, rfl, fun z => hup fun y hy => ?_⟩
            rw [e] at hy
            cases hy
            exact z
        obtain ⟨y, hy, cy⟩ := al.2 _ _ (last_at hx)
        obtain ⟨b', u', v', rfl, f1, _⟩ := cy.ex x6 rd5
        have wne : (!ws.isEmpty) = true := by
          cases ws with
          | nil => simp at hy
          | cons _ _ => rfl
        refine iteB wne ⟨_, rfl, 1, rfl, pc, ws, -1, .ref b', rfl, rfl, .inl (.inl epc6), atI_neg1 (by rw [al.1]; exact hy), b', _, 0, .str x.n, rfl, rfl, SqT.of f1, rfl, _, rfl, x.n, s, rfl, rfl, _, rfl, ?_⟩
        rw [decide_eq_false hlt]
        exact iteT ⟨_, rfl, rz Z.Z.D fun d H' s hd => st2.no false m (if_neg hup) H' d (Same.ex s) hd⟩
      rw [if_pos hup] at st2
      refine andF2 (fun hb k => ?_) (iteF ?_)
      · obtain ⟨x, hx⟩ : ∃ x, l.getLast? = some x := by
          cases e : l.getLast? with
          | none =>
            have : l = [] := List.getLast?_eq_none_iff.mp e
            have w0 : ws = [] := List.eq_nil_of_length_eq_zero (by rw [al.1, this]; rfl)
            rw [w0] at hb
            cases hb
          | some x => exact ⟨x, rfl⟩
        obtain ⟨y, hy, cy⟩ := al.2 _ _ (last_at hx)
        obtain ⟨b', u', v', rfl, f1, _⟩ := cy.ex x6 rd5
        refine ⟨_, rfl, 1, rfl, pc, ws, -1, .ref b', rfl, rfl, .inl (.inl epc6), atI_neg1 (by rw [al.1]; exact hy), b', _, 0, .str x.n, rfl, rfl, SqT.of f1, rfl, _, rfl, x.n, s, rfl, rfl, _, rfl, ?_⟩
        rw [decide_eq_true (hup x hx)]
        exact k
      · refine ⟨_, rfl, r, lo, os, j, rfl, rd6, O, ⟨fun sh j2 esh H7 v x7 rd7 sh7 => ?_, fun t i et H' d ex hd => st2.bad et ex hd⟩⟩
        have st3 := st2.next esh x7
        obtain ⟨ds, ts⟩ := sh
        have sh7 : ShAt H7 C v ds ts := sh7
        have epc7 := x7 _ _ epc6 npcr
        refine ⟨_, rfl, .inl ⟨rfl, _, .inl (.inl epc7)⟩, _, rfl, _, rfl, _, rfl, _, rfl, r, lo, v, os, j2, ds, ts, rfl, rd7, O, sh7, (pshape_ok esh).1, ⟨fun cs j3 ecs H8 t x8 rd8 ck8 => ⟨(by show 3 ≤ sizeLine; decide), fun t2 nt2 => ?_⟩, fun t i et H' d ex hd => st3.bad et ex hd⟩⟩
        have ck8 : TupAt H8 (CkAt H8) t cs := ck8
        have x58 := x6.trans (x7.trans x8)
        have s11 := same_new (o := .tup [.str s, v, t]) nt2
        have epc11 := s11 _ _ (x8 _ _ epc7 npcr)
        have epk : parr os l m = .ok (⟨s, ds, ts, cs⟩, j3) := by
          unfold parr
          rw [bd_ok es, if_pos hup, bd_ok esh, bd_ok ecs]
        refine ⟨pc, ws, .ref t2, rfl, rfl, epc11, big (by omega), _, _, _, _, ws ++ [.ref t2], l ++ [⟨s, ds, ts, cs⟩], j3, rfl, by rw [rep_succ er5', bd_ok epk], ((x5.trans x58).same s11).put npc, RdAt.put rd (rd8.same s11) npc, upd_same, ?_⟩
        have kt := kt_upd (ys := ws ++ [.ref t2]) epc11
        exact All.push (al.imp fun y c h => ((h.ex x58 rd5).same s11).kt kt) ⟨t2, v, t, rfl, kt _ _ upd_same (fun _ z => nomatch z), ((sh7.ex x8 rd7).same s11).kt kt, ((ck8.same s11 fun _ _ z => z.same s11).kt kt fun _ _ z => z.kt kt)⟩
    · rintro σ H5 ⟨y2, y3, y4, y5, ws, l, m, rfl, er5', x5, rd5, epc5, al⟩
      refine ⟨_, rfl, pc, ws, rfl, .inl ⟨.inl (.inl epc5), fun t nt => ?_⟩⟩
      have s6 := same_new (o := .tup ws) nt
      exact q0.ok _ _ (by rw [bd_ok ek]; exact er5') _ _ (x5.same s6) (rd5.same s6) ⟨t, ws, rfl, upd_same, al.imp fun y c h => h.same s6⟩
def spEnd (CO : Addr) : Sp := fun vs H Q _ => ∃ (r lo : Addr) (os : List Int) (n : Nat), vs = [.ref r] ∧ RdAt CO H r lo os n ∧ Q (.bl (decide (n = os.length))) H
theorem scEnd : FnScope ["self"] ["self"] (defScope sOctetReaderIsAtEnd) := ⟨rfl, rfl, rfl, by decide +kernel, rfl, by decide +kernel, by decide +kernel⟩
theorem ok_end {f fI CO : Addr} {fd : FuncData} (F : Fun K "is_at_end" "OctetReader.is_at_end" sOctetReaderIsAtEnd f fd) (N : Nm mg) (T : KC K CO fI ORf) : FnOk P w K mg base CX0 1 f fd ["self"] (spEnd CO) := by
  refine F.ok scEnd (fun vs H Q E h => ?_) (fun cdv A outer s H vs Q E hr h => ?_)
  · obtain ⟨r, lo, os, n, rfl, _⟩ := h
    rfl
  · obtain ⟨r, lo, os, n, rfl, hr', q⟩ := h
    refine ⟨_, pss_one (ps_ret (pe_cmpR op_eq (pe_fld (pv 0) rfl) (pe_callB call_len_seq (by rfl) N.len PySem.boot_len (pa_cons (pe_fld (pv 0) rfl) pa_nil)) (nomark _))), ?_⟩
    obtain ⟨dx, e⟩ := hr'.i
    refine ⟨_, rfl, r, CO, dx, _, _, rfl, e, T.cl, T.na _ (by decide +kernel), rfl, _, rfl, r, CO, dx, _, .ref lo, rfl, e, T.cl, T.na _ (by decide +kernel), rfl, lo, _, rfl, .inl (.inl (.inl hr'.o)), rfl, ?_⟩
    rw [List.length_map, int_eq, show decide ((n : Int) = (os.length : Int)) = decide (n = os.length) from decide_eq_decide.mpr ⟨fun h => by omega, fun h => by omega⟩]
    exact q
end
end K2

namespace K2
open PySem L2
theorem sm_lt : ∀ (os : List Int) (a : Int × Int), 0 ≤ a.1 → a.1 < 65521 → 0 ≤ a.2 → a.2 < 65521 → (0 ≤ (os.foldl sm a).1 ∧ (os.foldl sm a).1 < 65521) ∧ 0 ≤ (os.foldl sm a).2 ∧ (os.foldl sm a).2 < 65521
  | [], a, h1, h2, h3, h4 => ⟨⟨h1, h2⟩, h3, h4⟩
  | o :: t, a, h1, h2, h3, h4 => sm_lt t (sm a o) (Int.emod_nonneg _ (by decide)) (Int.emod_lt_of_pos _ (by decide)) (Int.emod_nonneg _ (by decide)) (Int.emod_lt_of_pos _ (by decide))
structure Ct6 (mg : Str → Option Value) : Prop where
  gn : ∃ v, mg "GREATEST_NUMBER" = some v ∧ RelV (.int 4294967295) v
def RRt (CR C : Addr) : Hp → V → Int × Int × List Ve → Prop := fun H v x => RtAt H CR C v x.1 x.2.1 x.2.2
/-- where the first octets are read -/
def At2 (os : List Int) : Nat → Nat → Prop
  | 0, m => m = 0
  | 1, m => ∃ a, pof [77] os 0 = .ok (a, m)
  | _, m => ∃ a m1 b, pof [77] os 0 = .ok (a, m1) ∧ pof [83] os m1 = .ok (b, m)
section
variable {P : Program} {w : World} {K : PySem.W.Frag} {mg : Str → Option Value} {base : Heap}
def spDR (CT CD CR C : Addr) : Sp := fun vs H Q E => ∃ (l0 : Addr) (os : List Int), vs = [.ref l0] ∧ H l0 = some (.lst (os.map V.int)) ∧ Os os ∧
  (∀ x m, proot os = .ok (x, m) → ∀ H' v, Same H H' → RRt CR C H' v x → Q v H') ∧ (∀ t i, proot os = .error (t, i) → ∀ H' d, Same H H' → H' d = some (erD t i) → E (.ref (if t then CT else CD)) (some d) H')
theorem scDR : FnScope ["octets", "reader", "octet", "upcoming", "data", "versions", "_", "earlier", "number", "first", "total"] ["octets"] (defScope sDecodeRoot) := ⟨rfl, rfl, rfl, by decide +kernel, rfl, by decide +kernel, by decide +kernel⟩
theorem ok_dr {f fO fE fA fU fR CO CT CD CR C : Addr} {fd fdO fdE fdA fdU fdR : FuncData} (F : Fun K "decode_root" "decode_root" sDecodeRoot f fd) (M : Nm mg) (Y : Ct3 K mg) (Y6 : Ct6 mg) (Z : RFX P w K mg base CO CT CD) (TO : KC K CO fO ORf)
    (GO : FnOk P w K mg base CX0 1 fO fdO ["self", "octets"] (spORI K CO)) (bO : Binds K fdO ["self", "octets"] []) (gO : mg "OctetReader" = some (.ref CO))
    (GE : FnOk P w K mg base CX0 1 fE fdE ["self"] (spEnd CO)) (bE : Binds K fdE ["self"] []) (mE : Meth K CO "is_at_end" fE)
    (GA : FnOk P w K mg base (L2.CX P w) 7 fA fdA ["reader"] (spP CO CT CD (RAs C) parrs)) (kA : PySem.W.keepIn K (.ref fA) = true) (bA : Binds K fdA ["reader"] []) (gA : mg "read_arrays" = some (.ref fA))
    (GU : FnOk P w K mg base CX0 1 fU fdU ["octets"] (spSum K)) (kU : PySem.W.keepIn K (.ref fU) = true) (bU : Binds K fdU ["octets"] []) (gU : mg "sum_of" = some (.ref fU))
    (R : KC K CR fR RHf) (GR : FnOk P w K mg base CX0 1 fR fdR ["self", "upcoming", "data", "versions"] (RIn CR C)) (bR : Binds K fdR ["self", "upcoming", "data", "versions"] []) (gR : mg "Root" = some (.ref CR)) : FnOk P w K mg base (L2.CX P w) 8 f fd ["octets"] (spDR CT CD CR C) := by
  have G4 := Z.G4
  have Gi := Z.Gi
  have Gf := Z.GO
  have T := Z.T
  have GX := Z.Z.GE
  refine F.okX scDR (fun vs H Q E h => ?_) (fun cdv A outer s H vs Q E hr h => ?_)
  · obtain ⟨l0, os, rfl, _⟩ := h
    rfl
  · obtain ⟨l0, os, rfl, h0, O, q, qe⟩ := h
    have hr1 := hr.mono (j := 1) (by decide)
    have hr2 := hr.mono (j := 2) (by decide)
    have hr4 := hr.mono (j := 4) (by decide)
    have hr5 := hr.mono (j := 5) (by decide)
    obtain ⟨kf, mf, hf⟩ := Y.first
    obtain ⟨gv, mgv, rgv⟩ := Y6.gn
    refine ⟨_, pss_cons (ps_set (i := 1) scDR.nd rfl (.inl rfl) (pe_make TO.mkC GO hr2 (by rfl) gO bO .nil pass0 (pa_cons (pv 0) pa_nil)))
      (pss_cons (ps_for (passes_of rfl) rfl (pi_tup (pe_glob (v := .ref kf) (by rfl) mf rfl)) (pg_name (i := 2) scDR.nd rfl (.inl rfl))
        (pss_one (ps_expr (pe_methX (pv 1) T.cl Z.mO Gf hr4 Z.bO (fun σ => passAt (takes_of rfl rfl rfl rfl) σ) (pa_cons (pe_tup (pa_cons (pv 2) pa_nil)) pa_nil)))))
      (pss_cons (ps_set (i := 3) scDR.nd rfl (.inl rfl) (pe_methX (pv 1) T.cl Z.mi Gi hr5 Z.bi (fun σ => passAt (takes_of rfl rfl rfl rfl) σ) (pa_cons pe_int (pa_cons (pe_glob (by rfl) mgv rgv) pa_nil))))
      (pss_cons (ps_set (i := 4) scDR.nd rfl (.inl rfl) (pe_methX0 (pv 1) T.cl Z.m4 G4 hr4 Z.b4 (fun σ => passAt (takes_of rfl rfl rfl rfl) σ)))
      (pss_cons (ps_set (i := 5) scDR.nd rfl (.inl rfl) (pe_lst pa_nil))
      (pss_cons (ps_for (passes_of rfl) rfl (pi_range1 (by rfl) M.range (pa_cons (pe_methX0 (pv 1) T.cl Z.m4 G4 hr4 Z.b4 (fun σ => passAt (takes_of rfl rfl rfl rfl) σ)) pa_nil)) (pg_name (i := 6) scDR.nd rfl (.inl rfl))
        (Evl.pss_cut (ps_set (i := 7) scDR.nd rfl (.inl rfl) (pe_ifExp (pt_truth (pv 5) (by intro _; rfl)) (pe_ix ix_tup (pe_ix ix_list (pv 5) (pe_un un_neg pe_int) (fun _ _ => rfl)) pe_int (fun _ _ => rfl)) pe_int))
        (pss_cons (ps_set (i := 8) scDR.nd rfl (.inl rfl) (pe_methX (pv 1) T.cl Z.mi Gi hr5 Z.bi (fun σ => passAt (takes_of rfl rfl rfl rfl) σ) (pa_cons (pe_op op_add (pv 7) pe_int) (pa_cons (pe_op op_sub (pv 3) pe_int) pa_nil))))
        (pss_one (ps_expr (pe_bm PySem.F.plainAttrs_list PySem.F.slot_list_append PySem.F.type_list_append mt_append (pv 5) (pa_cons (pe_tup (pa_cons (pv 8) (pa_cons (pe_callS GA hr (by rfl) gA kA bA (fun σ => passAt (takes_of rfl rfl rfl rfl) σ) (pa_cons (pv 1) pa_nil)) pa_nil))) pa_nil)))))))
      (pss_cons (ps_set (i := 9) scDR.nd rfl (.inl rfl) (pe_fld (pv 1) rfl))
      (pss_cons (ps_set (i := 10) scDR.nd rfl (.inl rfl) (pe_call GU hr1 (by rfl) gU kU bU .nil pass0 (pa_cons (pe_slice sl_list (pv 0) po_none (po_some (pv 9))) pa_nil)))
      (pss_cons (ps_expr (pe_methX (pv 1) T.cl Z.mi Gi hr5 Z.bi (fun σ => passAt (takes_of rfl rfl rfl rfl) σ) (pa_cons (pv 10) (pa_cons (pv 10) pa_nil))))
      (pss_cons (ps_if (pt_not (pt_val (pe_meth0 (pv 1) T.cl mE GE hr1 bE .nil pass0))) (pss_one (ps_raise rfl (takes_of rfl rfl rfl rfl) (pmk_oex Z.Z.D.oc Z.Z.D.iC Z.Z.D.tI GX hr2 Z.Z.bE .nil pass0 (by rfl) Z.Z.gD (pa_cons (pe_fld (pv 1) rfl) pa_nil)))) pss_nil)
      (pss_one (ps_ret (pe_make R.mkC GR hr2 (by rfl) gR bR .nil pass0 (pa_cons (pv 3) (pa_cons (pv 4) (pa_cons (pe_callTy call_tuple_of (by rfl) M.tuple (by decide +kernel) (pa_cons (pv 5) pa_nil)) pa_nil))))))))))))))), ?_⟩
    refine ⟨_, rfl, fun r dr nr ndr nre => ⟨r, dr, l0, os, rfl, upd_same, .inl (.inl ?_), fun H1 lo x1 nlo rd1 => ⟨rfl, ?_⟩⟩⟩
    · rw [upd_ne (ne_of_none h0 nr), upd_ne (ne_of_none h0 ndr)]
      exact h0
    have s1 : Same H H1 := mk_same nr ndr x1
    have nl0 : l0 ≠ r := ne_of_none h0 nr
    have toS : ∀ {H' : Hp}, Ex H1 H' r → Same H H' := fun x c o e => x c o (s1 _ _ e) (ne_of_none e nr)
    have q0 : Pst CO CT CD H1 r lo os (bd (pof [77] os 0) fun _ m => bd (pof [83] os m) fun _ m => bd (p4i 1 4294967295 os m) fun up m => bd (p4 os m) fun da m => bd (p4 os m) fun k m =>
        bd (rep (pver up os) k.toNat m) fun vs m => bd (p4i (sumO (os.take m)) (sumO (os.take m)) os m) fun _ j => if j = os.length then .ok ((up, da, vs), j) else .error (false, j)) (RRt CR C) Q E :=
      ⟨fun a m e H' v x _ rr => q a m e H' v (toS x) rr, fun t i e H' d x hd => qe t i e H' d (toS x) hd⟩
    have idx : Ex H1 H1 r := fun _ _ e _ => e
    refine ⟨kf, rfl, ⟨_, hf _⟩, for_it (walk_tup (xs := [77, 83].map V.int)) (fun i σ H2 => ∃ y2 m, σ = [some (.ref l0), some (.ref r), y2, none, none, none, none, none, none, none, none] ∧ At2 os i m ∧ Ex H1 H2 r ∧ RdAt CO H2 r lo os m) ?_ ?_ ?_ ?_⟩
    · exact ⟨none, 0, rfl, rfl, idx, rd1⟩
    · intro i σ H2 hi _
      exact hf _
    · rintro i x σ H2 H' hi ⟨y2, m, rfl, am, x2, rd2⟩ ⟨rfl, hx⟩
      obtain ⟨dr2, er2⟩ := rd2.i
      match i, hi, am, hx with
      | 0, _, am, hx =>
        obtain rfl : x = .int 77 := (Option.some.inj hx).symm
        obtain rfl : m = 0 := am
        refine ⟨_, rfl, r, dr2, _, rfl, er2, rfl, _, rfl, (by show 1 ≤ sizeLine; decide), fun t nt => ?_⟩
        have st := same_new (o := .tup [V.int 77]) nt
        refine ⟨r, lo, t, os, [77], 0, rfl, rd2.same st, fun H3 x3 => SqT.of (x3 _ _ upd_same (rd_ne rd2 nt)), ⟨fun a m2 ea H3 v3 x3 rd3 rl => ⟨_, m2, rfl, ⟨a, ea⟩, (x2.same st).trans x3, rd3⟩, fun t i et H' d ex hd => q0.bad et ((x2.same st).trans ex) hd⟩⟩
      | 1, _, am, hx =>
        obtain rfl : x = .int 83 := (Option.some.inj hx).symm
        obtain ⟨a, ea⟩ := am
        refine ⟨_, rfl, r, dr2, _, rfl, er2, rfl, _, rfl, (by show 1 ≤ sizeLine; decide), fun t nt => ?_⟩
        have st := same_new (o := .tup [V.int 83]) nt
        refine ⟨r, lo, t, os, [83], m, rfl, rd2.same st, fun H3 x3 => SqT.of (x3 _ _ upd_same (rd_ne rd2 nt)), ⟨fun b m2 eb H3 v3 x3 rd3 rl => ⟨_, m2, rfl, ⟨a, m, b, ea, eb⟩, (x2.same st).trans x3, rd3⟩, fun t i et H' d ex hd => (q0.next ea idx).bad et ((x2.same st).trans ex) hd⟩⟩
      | i + 2, hi, _, _ => exact absurd hi (by show ¬ (i + 2 < 2); omega)
    · rintro σ H2 ⟨y2, m2, rfl, ⟨a, m1, b, ea, eb⟩, x2, rd2⟩
      have q2 := (q0.next ea idx).next eb x2
      obtain ⟨dr2, er2⟩ := rd2.i
      refine ⟨_, rfl, r, dr2, _, rfl, er2, rfl, r, lo, os, 1, 4294967295, m2, rfl, rd2, O, ⟨fun up m3 eu H3 v3 x3 rd3 rl3 => ?_, fun t i et H' d ex hd => q2.bad et ex hd⟩⟩
      obtain rfl : v3 = .int up := rl3
      have q3 := q2.next eu x3
      obtain ⟨dr3, er3⟩ := rd3.i
      refine ⟨_, rfl, r, dr3, _, rfl, er3, rfl, r, lo, os, m3, rfl, rd3, O, ⟨fun da m4 ed H4 v4 x4 rd4 rl4 => ?_, fun t i et H' d ex hd => q3.bad et ex hd⟩⟩
      obtain rfl : v4 = .int da := rl4
      have q4 := q3.next ed x4
      refine ⟨Nat.zero_le _, fun pc npc => ?_⟩
      have s5 := same_new (o := .lst []) npc
      have rd5 := rd4.same s5
      obtain ⟨dr5, er5⟩ := rd5.i
      have npcr : pc ≠ r := rd_ne rd4 npc
      refine ⟨_, rfl, r, dr5, _, rfl, er5, rfl, r, lo, os, m4, rfl, rd5, O, ⟨fun k m0 ek H6 v6 x6 rd6 rl6 => ?_, fun t i et H' d ex hd => q4.bad et ((Same.ex s5).trans ex) hd⟩⟩
      obtain rfl : v6 = .int k := rl6
      have kb := (p4_ok ek O).1
      have idx4 : Ex H4 H4 r := fun _ _ e _ => e
      have q6 := q4.next ek idx4
      refine ⟨k, rfl, by omega, by omega, for_range (lo := 0) (n := k.toNat) (fun i σ H7 => ∃ y6 y7 y8 ws l m, σ = [some (.ref l0), some (.ref r), y2, some (.int up), some (.int da), some (.ref pc), y6, y7, y8, none, none] ∧ rep (pver up os) i m0 = .ok (l, m) ∧ Ex H4 H7 r ∧ RdAt CO H7 r lo os m ∧ H7 pc = some (.lst ws) ∧ All (VeAt H7 C) ws l) ?_ ?_ ?_⟩
      · exact ⟨_, _, _, [], [], m0, rfl, rfl, (Same.ex s5).trans x6, rd6, x6 _ _ upd_same npcr, All.nil⟩
      · rintro i σ H7 hi ⟨y6, y7, y8, ws, l, m, rfl, er7', x7, rd7, epc7, al⟩
        have xl := al.1
        rw [rep_len er7'] at xl
        have hm := rd7.le
        have hol := O.l
        have hil := rep_lt (fun _ _ _ _ z => pver_lt z) er7'
        have st : Pst CO CT CD H7 r lo os (bd (p4i (lastNo l + 1) (up - 1) os m) fun v j => bd (parrs os j) fun as j => .ok (⟨v, as⟩, j)) (fun _ _ (_ : Ve) => True) (fun _ _ => True) E :=
          ⟨fun _ _ _ _ _ _ _ _ => trivial, fun t ii e H' d x2 hd => q6.bad (rep_err (Nat.succ_le_of_lt hi) (by rw [rep_succ er7']; exact bd_err e)) (x7.trans x2) hd⟩
        refine ⟨fun σ H8 => σ = [some (.ref l0), some (.ref r), y2, some (.int up), some (.int da), some (.ref pc), some (.int (0 + (i : Int))), some (.int (lastNo l)), y8, none, none] ∧ H8 = H7, ?_, ?_⟩
        · refine ⟨_, rfl, !ws.isEmpty, .inl ⟨ws, .inl (.inl epc7), rfl⟩, ?_⟩
          cases e : l.getLast? with
          | none =>
            have : l = [] := List.getLast?_eq_none_iff.mp e
            have w0 : ws = [] := List.eq_nil_of_length_eq_zero (by rw [al.1, this]; rfl)
            subst this w0
            exact iteBF rfl ⟨rfl, rfl⟩
          | some x =>
            obtain ⟨y, hy, cy⟩ := al.2 _ _ (last_at e)
            obtain ⟨b', u', rfl, f1, _⟩ := cy
            have hb : (!ws.isEmpty) = true := by
              cases ws with
              | nil => simp at hy
              | cons a l => rfl
            have eno : lastNo l = x.no := by unfold lastNo; rw [e]
            rw [eno]
            exact iteB hb ⟨_, rfl, 1, rfl, pc, ws, -1, .ref b', rfl, rfl, .inl (.inl epc7), atI_neg1 (by rw [al.1]; exact hy), b', _, 0, .int x.no, rfl, rfl, SqT.of f1, rfl, rfl, rfl⟩
        rintro σ H8 ⟨rfl, rfl⟩
        obtain ⟨dr7, er7⟩ := rd7.i
        refine ⟨_, rfl, r, dr7, _, rfl, er7, rfl, _, rfl, _, _, rfl, rfl, _, rfl, _, _, rfl, rfl, r, lo, os, lastNo l + 1, up - 1, m, rfl, rd7, O, ⟨fun no j eno H9 v9 x9 rd9 rl9 => ?_, fun t i et H' d ex hd => st.bad et ex hd⟩⟩
        obtain rfl : v9 = .int no := rl9
        have st2 := st.next eno x9
        have epc9 := x9 _ _ epc7 npcr
        refine ⟨_, rfl, .inl ⟨rfl, _, .inl (.inl epc9)⟩, _, rfl, _, rfl, r, lo, os, j, rfl, rd9, O, ⟨fun as j2 eas H10 t x10 rd10 ta => ⟨(by show 2 ≤ sizeLine; decide), fun t2 nt2 => ?_⟩, fun t i et H' d ex hd => st2.bad et ex hd⟩⟩
        have ta : TupAt H10 (ArAt H10 C) t as := ta
        have x710 := x9.trans x10
        have s11 := same_new (o := .tup [.int no, t]) nt2
        have epc11 := s11 _ _ (x10 _ _ epc9 npcr)
        have epk : pver up os l m = .ok (⟨no, as⟩, j2) := by
          unfold pver
          rw [bd_ok eno, bd_ok eas]
        refine ⟨pc, ws, .ref t2, rfl, rfl, epc11, big (by omega), _, _, _, ws ++ [.ref t2], l ++ [⟨no, as⟩], j2, rfl, by rw [rep_succ er7', bd_ok epk], ((x7.trans x710).same s11).put npc, RdAt.put rd4 (rd10.same s11) npc, upd_same, ?_⟩
        have kt := kt_upd (ys := ws ++ [.ref t2]) epc11
        exact All.push (al.imp fun y c h => ((h.ex x710 rd7).same s11).kt kt) ⟨t2, t, rfl, kt _ _ upd_same (fun _ z => nomatch z), ((ta.same s11 fun _ _ z => z.same s11).kt kt fun _ _ z => z.kt kt)⟩
      · rintro σ H7 ⟨y6, y7, y8, ws, l, m, rfl, er7', x7, rd7, epc7, al⟩
        have q7 := q6.next er7' x7
        obtain ⟨dr7, er7⟩ := rd7.i
        have hm := rd7.le
        have h07 : H7 l0 = some (.lst (os.map V.int)) := x7 _ _ (x4 _ _ (x3 _ _ (x2 _ _ (s1 _ _ h0) nl0) nl0) nl0) nl0
        refine ⟨_, rfl, r, CO, dr7, _, .int (m : Int), rfl, er7, T.cl, T.na _ (by decide +kernel), rfl, ?_⟩
        refine ⟨_, rfl, _, rfl, _, rfl, l0, _, rfl, .inl (.inl h07), fun p np => ?_⟩
        have ecut : cutV (os.map V.int) none (some (m : Int)) = (os.take m).map V.int := by
          unfold cutV
          rw [show HT.sIx (os.map V.int).length (os.map V.int).length (some (m : Int)) = min m (os.map V.int).length from HT.sIx_nat _ _ _, List.length_map, Nat.min_eq_left hm]
          show ((os.map V.int).drop 0).take (m - 0) = _
          rw [List.drop_zero, Nat.sub_zero, ← List.map_take]
        rw [ecut]
        have s8 := same_new (o := .lst ((os.take m).map V.int)) np
        refine ⟨p, os.take m, rfl, .inl (.inl upd_same), ?_⟩
        have rd8 := rd7.same s8
        obtain ⟨dr8, er8⟩ := rd8.i
        have q8 := q7.mv (Same.ex s8)
        refine ⟨_, rfl, r, dr8, _, rfl, er8, rfl, _, rfl, _, rfl, r, lo, os, sumO (os.take m), sumO (os.take m), m, rfl, rd8, O, ⟨fun tot j et H9 v9 x9 rd9 rl9 => ?_, fun t i et H' d ex hd => q8.bad et ex hd⟩⟩
        have q9 := q8.next et x9
        obtain ⟨dr9, er9⟩ := rd9.i
        refine ⟨_, rfl, r, dr9, _, rfl, er9, rfl, r, lo, os, j, rfl, rd9, _, rfl, ?_⟩
        by_cases hj : j = os.length
        case neg =>
          rw [decide_eq_false hj]
          rw [if_neg hj] at q9
          exact iteT ⟨_, rfl, r, CO, dr9, _, .int (j : Int), rfl, er9, T.cl, T.na _ (by decide +kernel), rfl, rz Z.Z.D fun d H' s hd => q9.no false j rfl H' d (Same.ex s) hd⟩
        rw [decide_eq_true hj]
        rw [if_pos hj] at q9
        refine iteF ?_
        have epc9 := x9 _ _ (s8 _ _ epc7) npcr
        refine ⟨_, rfl, _, rfl, _, rfl, pc, ws, rfl, .inl ⟨.inl (.inl epc9), fun t nt => ?_⟩⟩
        intro a dxa na ndxa nae
        refine ⟨a, dxa, .int up, .int da, .ref t, rfl, upd_same, fun H11 x11 e11 => ⟨rfl, ?_⟩⟩
        have s911 : Same H9 H11 := (same_new nt).trans (mk_same na ndxa x11)
        have al9 : All (VeAt H9 C) ws l := al.imp fun y c h => (h.same s8).ex x9 rd8
        refine q9.ok _ _ rfl H11 _ (Same.ex s911) (rd9.same s911) ⟨a, dxa, .ref t, rfl, e11, t, ws, rfl, ?_, al9.imp fun y c h => h.same s911⟩
        exact mk_same na ndxa x11 _ _ upd_same
end
end K2

namespace K2
open PySem L2
/-- the law's own reader: a list of the octets, the place, the fault -/
structure JAt (H : Hp) (j jo : Addr) (os : List Int) (n : Nat) : Prop where
  J : H j = some (.lst [.ref jo, .int (n : Int), .non])
  o : H jo = some (.lst (os.map V.int))
  le : n ≤ os.length
  ne : jo ≠ j
def ErJ (H : Hp) (j : Addr) (t : Bool) (i : Nat) : Prop := ∃ (tp : Addr) (u v : V), H j = some (.lst [u, v, .ref tp]) ∧ H tp = some (.tup [.str (erN t), .int (i : Int)])
structure Jst {α : Type} (H : Hp) (j jo : Addr) (os : List Int) (x : Re α) (R : Hp → V → α → Prop) (Q : VK) (E : XK) : Prop where
  ok : ∀ a m, x = .ok (a, m) → ∀ H' v, Ex H H' j → JAt H' j jo os m → R H' v a → Q v H'
  no : ∀ t i, x = .error (t, i) → ∀ H' d, Ex H H' j → ErJ H' j t i → E (.type "KeyError") d H'
section
variable {α β : Type} {H H' : Hp} {j jo : Addr} {os : List Int} {x : Re α} {f : α → Nat → Re β} {R : Hp → V → β → Prop} {Q : VK} {E : XK}
theorem Jst.next (h : Jst H j jo os (bd x f) R Q E) {a : α} {m : Nat} (e : x = .ok (a, m)) (ex : Ex H H' j) : Jst H' j jo os (f a m) R Q E := by
  rw [bd_ok e] at h
  exact ⟨fun a m e H2 v x2 => h.ok a m e H2 v (ex.trans x2), fun t i e H2 d x2 => h.no t i e H2 d (ex.trans x2)⟩
theorem Jst.bad (h : Jst H j jo os (bd x f) R Q E) {t : Bool} {i : Nat} (e : x = .error (t, i)) {H' : Hp} {d : Option Addr} (ex : Ex H H' j) (hd : ErJ H' j t i) : E (.type "KeyError") d H' := h.no t i (bd_err e) H' d ex hd
theorem Jst.mv {x : Re β} (h : Jst H j jo os x R Q E) (ex : Ex H H' j) : Jst H' j jo os x R Q E :=
  ⟨fun a m e H2 v x2 => h.ok a m e H2 v (ex.trans x2), fun t i e H2 d x2 => h.no t i e H2 d (ex.trans x2)⟩
end
theorem JAt.same {H H1 : Hp} {j jo : Addr} {os : List Int} {n : Nat} (h : JAt H j jo os n) (s : Same H H1) : JAt H1 j jo os n := ⟨s _ _ h.J, s _ _ h.o, h.le, h.ne⟩
theorem JAt.put {H H1 : Hp} {j jo D : Addr} {os : List Int} {n m : Nat} {o : HO} (rd : JAt H j jo os n) (h : JAt H1 j jo os m) (nD : H D = none) : JAt (upd H1 D o) j jo os m :=
  ⟨by rw [upd_ne (ne_of_none rd.J nD)]; exact h.J, by rw [upd_ne (ne_of_none rd.o nD)]; exact h.o, h.le, h.ne⟩
theorem jt_ne {H : Hp} {j jo D : Addr} {os : List Int} {n : Nat} (rd : JAt H j jo os n) (nD : H D = none) : D ≠ j := (ne_of_none rd.J nD).symm
theorem Ex.kpJ {H H1 : Hp} {j jo : Addr} {os : List Int} {n : Nat} (x : Ex H H1 j) (rd : JAt H j jo os n) : Kp H H1 := fun b xs e => x _ _ e (ne_of e rd.J (by intro z; cases z))
def spJ {α : Type} (R : Hp → V → α → Prop) (p : List Int → Nat → Re α) : Sp := fun vs H Q E => ∃ (j jo : Addr) (os : List Int) (n : Nat), vs = [.ref j] ∧ JAt H j jo os n ∧ Os os ∧ Jst H j jo os (p os n) R Q E
def LCH : Str := "ABCDEFGHIJKLMNOPQRSTUVWXYZabcdefghijklmnopqrstuvwxyz_0123456789"
theorem lch_nch : (∀ c ∈ LCH.cps.toList, c ∈ NCH.cps.toList) ∧ ∀ c ∈ NCH.cps.toList, c ∈ LCH.cps.toList := by decide +kernel
theorem no_sp : ¬ 32 ∈ NCH.cps.toList := by decide +kernel
def lcd (o : Int) : Nat := if ncode o = true then o.toNat else 32
def ltx (xs : List Int) : Str := ⟨(xs.map lcd).toArray⟩
theorem ltx_len (xs : List Int) : (ltx xs).length = xs.length := by simp [ltx, Str.length]
theorem ltx_ok {xs : List Int} (h : xs.all ncode = true) : ltx xs = txt xs := by
  have : xs.map lcd = xs.map Int.toNat := List.map_congr_left fun o ho => by
    unfold lcd
    rw [if_pos ((List.all_eq_true.mp h) o ho)]
  unfold ltx txt
  rw [this]
theorem ltx_simp {xs : List Int} : simp (ltx xs) = nmOk xs := by
  cases e : xs.all ncode with
  | true => rw [ltx_ok e, nmOk_simp]
  | false =>
    have h0 : nmOk xs = false := by unfold nmOk; rw [e]; rfl
    rw [h0, Bool.eq_false_iff]
    intro z
    unfold simp at z
    rw [Bool.and_eq_true, Bool.and_eq_true, Bool.and_eq_true] at z
    have h2 := strip_all (of_decide_eq_true z.2.1)
    have : ∃ o ∈ xs, ncode o = false := by
      rw [← Bool.not_eq_true, List.all_eq_true] at e
      exact Classical.byContradiction fun y => e fun o ho => by
        cases q : ncode o with
        | true => rfl
        | false => exact absurd ⟨o, ho, q⟩ y
    obtain ⟨o, ho, q⟩ := this
    refine no_sp (h2 32 ?_)
    show 32 ∈ ((xs.map lcd).toArray).toList
    rw [List.toList_toArray]
    exact List.mem_map.mpr ⟨o, ho, by unfold lcd; rw [q]; rfl⟩
theorem nmOk_all {xs : List Int} (h : nmOk xs = true) : xs.all ncode = true := by
  unfold nmOk at h
  rw [Bool.and_eq_true] at h
  exact h.1
section
variable {P : Program} {w : World} {K : PySem.W.Frag} {mg : Str → Option Value} {base : Heap}
def spFail : Sp := fun vs H _ E => ∃ (j : Addr) (s : Str) (i : Int) (a b c : V), vs = [.ref j, .str s, .int i] ∧ H j = some (.lst [a, b, c]) ∧
  ∀ H' tp d, Ex H H' j → H' j = some (.lst [a, b, .ref tp]) → H' tp = some (.tup [.str s, .int i]) → E (.type "KeyError") d H'
theorem scFail : FnScope ["job", "word", "place"] ["job", "word", "place"] (defScope sLFail) := ⟨rfl, rfl, rfl, by decide +kernel, rfl, by decide +kernel, by decide +kernel⟩
theorem ok_fail {f : Addr} {fd : FuncData} (F : Fun K "_law_fail" "_law_fail" sLFail f fd) (ke : mg "KeyError" = none) : FnOk P w K mg base (L2.CX P w) 1 f fd ["job", "word", "place"] spFail := by
  refine F.okX scFail (fun vs H Q E h => ?_) (fun cdv A outer s H vs Q E hr h => ?_)
  · obtain ⟨j, s, i, a, b, c, rfl, _⟩ := h
    rfl
  · obtain ⟨j, s, i, a, b, c, rfl, hj, qe⟩ := h
    refine ⟨_, pss_cons (ps_asg (pe_tup (pa_cons (pv 1) (pa_cons (pv 2) pa_nil))) (pg_sub (pv 0) pe_int set_list))
      (pss_one (ps_raise rfl (takes_of rfl rfl rfl rfl) (pmk_exc PyProof.Rows.excClass_KeyError ty_KeyError (by rfl) ke boot_KeyError (pa_cons pe_str pa_nil)))), ?_⟩
    refine ⟨_, rfl, _, rfl, (by show 2 ≤ sizeLine; decide), fun t nt => ?_⟩
    have ntj : t ≠ j := (ne_of_none hj nt).symm
    refine ⟨_, rfl, j, _, 2, 2, rfl, rfl, same_new nt _ _ hj, rfl, (by show 1 ≤ sizeLine; decide), fun d => ?_⟩
    refine qe _ t d (fun x o e n => ?_) upd_same ?_
    · rw [upd_ne n]
      exact same_new nt _ _ e
    · rw [upd_ne ntj, upd_same]
def spTake : Sp := fun vs H Q E => ∃ (j jo : Addr) (os : List Int) (n k : Nat), vs = [.ref j, .int (k : Int)] ∧ JAt H j jo os n ∧ Jst H j jo os (tk k os n) RLst Q E
theorem scTake : FnScope ["job", "count", "octets", "place"] ["job", "count"] (defScope sLTake) := ⟨rfl, rfl, rfl, by decide +kernel, rfl, by decide +kernel, by decide +kernel⟩
theorem ok_take {f fF : Addr} {fd fdF : FuncData} (F : Fun K "_law_take" "_law_take" sLTake f fd) (N : Nm mg) (GF : FnOk P w K mg base (L2.CX P w) 1 fF fdF ["job", "word", "place"] spFail) (kF : PySem.W.keepIn K (.ref fF) = true) (bF : Binds K fdF ["job", "word", "place"] []) (gF : mg "_law_fail" = some (.ref fF)) :
    FnOk P w K mg base (L2.CX P w) 2 f fd ["job", "count"] spTake := by
  refine F.okX scTake (fun vs H Q E h => ?_) (fun cdv A outer s H vs Q E hr h => ?_)
  · obtain ⟨j, jo, os, n, k, rfl, _⟩ := h
    rfl
  · obtain ⟨j, jo, os, n, k, rfl, ja, q⟩ := h
    refine ⟨_, pss_cons (ps_set (i := 2) scTake.nd rfl (.inl rfl) (pe_ix ix_list (pv 0) pe_int (fun _ _ => rfl)))
      (pss_cons (ps_set (i := 3) scTake.nd rfl (.inl rfl) (pe_ix ix_list (pv 0) pe_int (fun _ _ => rfl)))
      (pss_cons (ps_asg (pe_op op_add (pv 3) (pv 1)) (pg_sub (pv 0) pe_int set_list))
      (pss_cons (ps_if (pt_cmpR op_gt (pe_op op_add (pv 3) (pv 1)) (pe_callB call_len_seq (by rfl) N.len PySem.boot_len (pa_cons (pv 2) pa_nil)) (nomark _))
        (pss_one (ps_expr (pe_callS GF hr (by rfl) gF kF bF (fun σ => passAt (takes_of rfl rfl rfl rfl) σ) (pa_cons (pv 0) (pa_cons pe_str (pa_cons (pe_callB call_len_seq (by rfl) N.len PySem.boot_len (pa_cons (pv 2) pa_nil)) pa_nil)))))) pss_nil)
      (pss_one (ps_ret (pe_slice sl_list (pv 2) (po_some (pv 3)) (po_some (pe_op op_add (pv 3) (pv 1))))))))), ?_⟩
    have hJ := ja.J
    refine ⟨_, rfl, j, _, 0, .ref jo, rfl, rfl, .inl (.inl hJ), rfl, ?_⟩
    refine ⟨_, rfl, j, _, 1, .int (n : Int), rfl, rfl, .inl (.inl hJ), rfl, ?_⟩
    refine ⟨_, rfl, _, rfl, _, _, rfl, rfl, _, rfl, j, _, 1, 1, rfl, rfl, hJ, rfl, ?_⟩
    have ho1 : (upd H j (.lst [.ref jo, .int ((n : Int) + (k : Int)), .non])) jo = some (.lst (os.map V.int)) := by rw [upd_ne ja.ne]; exact ja.o
    have x1 : Ex H (upd H j (.lst [.ref jo, .int ((n : Int) + (k : Int)), .non])) j := fun a o e na => by rw [upd_ne na]; exact e
    refine ⟨_, rfl, _, rfl, _, _, rfl, rfl, _, rfl, jo, _, rfl, .inl (.inl (.inl ho1)), _, _, rfl, rfl, _, rfl, ?_⟩
    rw [List.length_map]
    by_cases hk : n + k ≤ os.length
    · have et : tk k os n = .ok ((os.drop n).take k, n + k) := by unfold tk; rw [if_pos hk]
      refine iteBF (decide_eq_false (by omega)) ?_
      refine ⟨_, rfl, _, rfl, _, rfl, _, rfl, _, rfl, _, _, rfl, rfl, _, rfl, jo, _, rfl, .inl (.inl ho1), fun p np => ?_⟩
      have e2 : (n : Int) + (k : Int) = ((n + k : Nat) : Int) := by omega
      refine q.ok _ _ et _ _ (x1.trans (Same.ex (same_new np))) (JAt.same (H := upd H j _) ⟨by rw [upd_same, e2], ho1, hk, ja.ne⟩ (same_new np)) ⟨p, rfl, ?_⟩
      rw [upd_same, cutab, ← List.map_drop, ← List.map_take]
    · have et : tk k os n = .error (true, os.length) := by unfold tk; rw [if_neg hk]
      refine iteB (decide_eq_true (by omega)) ?_
      refine ⟨_, rfl, _, rfl, jo, _, rfl, .inl (.inl (.inl ho1)), j, "Truncated", _, _, _, _, rfl, upd_same, fun H' tp d ex e1 e2 => ?_⟩
      exact q.no _ _ et H' d (x1.trans ex) ⟨tp, _, _, e1, by rw [List.length_map] at e2; exact e2⟩
theorem scNumber : FnScope ["job", "value", "octet"] ["job"] (defScope sNumber) := ⟨rfl, rfl, rfl, by decide +kernel, rfl, by decide +kernel, by decide +kernel⟩
theorem ok_number {f fT : Addr} {fd fdT : FuncData} (F : Fun K "_law_number" "_law_number" sNumber f fd) (GT : FnOk P w K mg base (L2.CX P w) 2 fT fdT ["job", "count"] spTake) (kT : PySem.W.keepIn K (.ref fT) = true) (bT : Binds K fdT ["job", "count"] []) (gT : mg "_law_take" = some (.ref fT)) :
    FnOk P w K mg base (L2.CX P w) 3 f fd ["job"] (spJ RInt p4) := by
  refine F.okX scNumber (fun vs H Q E h => ?_) (fun cdv A outer s H vs Q E hr h => ?_)
  · obtain ⟨j, jo, os, n, rfl, _⟩ := h
    rfl
  · obtain ⟨j, jo, os, n, rfl, ja, O, q⟩ := h
    refine ⟨_, pss_cons (ps_set (i := 1) scNumber.nd rfl (.inl rfl) pe_int)
      (pss_cons (ps_for (passes_of rfl) rfl (pi_list (pe_callS GT hr (by rfl) gT kT bT (fun σ => passAt (takes_of rfl rfl rfl rfl) σ) (pa_cons (pv 0) (pa_cons pe_int pa_nil)))) (pg_name (i := 2) scNumber.nd rfl (.inl rfl))
        (pss_one (ps_set (i := 1) scNumber.nd rfl (.inl rfl) (pe_op op_add (pe_op op_mul pe_int (pv 1)) (pv 2)))))
      (pss_one (ps_ret (pv 1)))), ?_⟩
    have q1 : Jst H j jo os (bd (tk 4 os n) fun xs m => .ok (fo xs, m)) RInt Q E := q
    refine ⟨_, rfl, j, jo, os, n, 4, rfl, ja, ⟨fun xs m et H' v ex rd rl => ?_, fun t i et H' d ex hd => q1.bad et ex hd⟩⟩
    obtain ⟨p, rfl, hp⟩ := rl
    have q2 := q1.next et ex
    refine ⟨p, rfl, ⟨_, .inl (.inl hp)⟩, for_it (walk_list (xs := xs.map V.int)) (fun i σ H2 => ∃ y2, σ = [some (.ref j), some (.int (fo (xs.take i))), y2] ∧ H2 = H') ?_ ?_ ?_ ?_⟩
    · exact ⟨none, rfl, rfl⟩
    · rintro i σ H2 hi ⟨y2, rfl, rfl⟩
      exact .inl (.inl hp)
    · rintro i x σ H2 H3 hi ⟨y2, rfl, rfl⟩ ⟨rfl, hx⟩
      rw [List.length_map] at hi
      rw [List.getElem?_map, List.getElem?_eq_getElem hi] at hx
      obtain rfl := Option.some.inj hx
      have ef : fo (xs.take (i + 1)) = 256 * fo (xs.take i) + xs[i] := by
        rw [Int.mul_comm]
        unfold fo
        rw [List.take_add_one, List.getElem?_eq_getElem hi, List.foldl_append]
        rfl
      rw [ef]
      exact ⟨_, rfl, _, _, rfl, rfl, .inl ⟨by decide, by decide⟩, _, rfl, _, _, rfl, rfl, _, rfl, rfl⟩
    · rintro σ H2 ⟨y2, rfl, rfl⟩
      rw [List.length_map, List.take_length]
      exact ⟨_, rfl, q2.ok _ _ rfl _ _ (Same.ex (Same.refl _)) rd rfl⟩
def spLChar : Sp := fun vs H Q _ => ∃ o : Int, vs = [.int o] ∧ 0 ≤ o ∧ Q (.str (sg (lcd o))) H
theorem scLChar : FnScope ["octet", "char"] ["octet"] (defScope sLChar) := ⟨rfl, rfl, rfl, by decide +kernel, rfl, by decide +kernel, by decide +kernel⟩
theorem sp_sg : (" " : Str) = sg 32 := by decide +kernel
theorem ok_lchar {f : Addr} {fd : FuncData} (F : Fun K "_law_char" "_law_char" sLChar f fd) (go : mg "ord" = none) : FnOk P w K mg base CX0 1 f fd ["octet"] spLChar := by
  refine F.ok scLChar (fun vs H Q E h => ?_) (fun cdv A outer s H vs Q E hr h => ?_)
  · obtain ⟨o, rfl, _⟩ := h
    rfl
  · obtain ⟨o, rfl, o0, q⟩ := h
    refine ⟨_, pss_cons (ps_for PassesOwn.never rfl (pi_str pe_str) (pg_name (i := 1) scLChar.nd rfl (.inl rfl))
        (pss_one (ps_if (pt_cmpR op_eq (pe_callB call_ord (by rfl) go (by decide +kernel) (pa_cons (pv 1) pa_nil)) (pv 0) (nomark _)) (pss_one (ps_ret (pv 1))) pss_nil)))
      (pss_one (ps_ret pe_str)), ?_⟩
    refine ⟨LCH, rfl, for_it walk_str (fun i σ H2 => ∃ y1, σ = [some (.int o), y1] ∧ H2 = H ∧ ∀ c ∈ LCH.cps.toList.take i, (c : Int) ≠ o) ?_ ?_ ?_ ?_⟩
    · exact ⟨none, rfl, rfl, fun c h => by simp at h⟩
    · intro i σ H2 hi _
      trivial
    · rintro i x σ H2 H' hi ⟨y1, rfl, rfl, hno⟩ ⟨rfl, c, hc, rfl⟩
      have hc2 : LCH.cps.toList[i]? = some c := by rw [Array.getElem?_toList]; exact hc
      refine ⟨_, rfl, _, rfl, rfl, _, rfl, rfl, _, rfl, ?_⟩
      rw [int_eq]
      by_cases e : (c : Int) = o
      · refine iteB (decide_eq_true e) ⟨_, rfl, ?_⟩
        have : sg (lcd o) = sg c := by
          have hm : ncode o = true := by
            unfold ncode
            exact decide_eq_true (lch_nch.1 _ (by rw [← e]; exact List.mem_of_getElem? hc2))
          unfold lcd
          rw [if_pos hm, ← e]
          rfl
        rw [this] at q
        exact q
      · refine iteBF (decide_eq_false e) ⟨_, rfl, rfl, fun d hd => ?_⟩
        rw [List.take_add_one, hc2] at hd
        rcases List.mem_append.mp hd with z | z
        · exact hno d z
        · rw [List.mem_singleton.mp z]
          exact e
    · rintro σ H2 ⟨y1, rfl, rfl, hno⟩
      have hm : ncode o = false := by
        unfold ncode
        refine decide_eq_false fun z => hno o.toNat ?_ (Int.toNat_of_nonneg o0)
        have := lch_nch.2 _ z
        rwa [List.take_of_length_le (by rw [Array.length_toList]; exact Nat.le_refl _)]
      have : sg (lcd o) = (" " : Str) := by
        unfold lcd
        rw [hm, sp_sg]
        rfl
      rw [this] at q
      exact q
theorem scLName : FnScope ["job", "place", "size", "text", "octet"] ["job"] (defScope sLName) := ⟨rfl, rfl, rfl, by decide +kernel, rfl, by decide +kernel, by decide +kernel⟩
theorem ok_lname {f fT fF fC fS : Addr} {fd fdT fdF fdC fdS : FuncData} (F : Fun K "_law_name" "_law_name" sLName f fd) (GT : FnOk P w K mg base (L2.CX P w) 2 fT fdT ["job", "count"] spTake) (kT : PySem.W.keepIn K (.ref fT) = true) (bT : Binds K fdT ["job", "count"] []) (gT : mg "_law_take" = some (.ref fT))
    (GF : FnOk P w K mg base (L2.CX P w) 1 fF fdF ["job", "word", "place"] spFail) (kF : PySem.W.keepIn K (.ref fF) = true) (bF : Binds K fdF ["job", "word", "place"] []) (gF : mg "_law_fail" = some (.ref fF))
    (GC : FnOk P w K mg base CX0 1 fC fdC ["octet"] spLChar) (kC : PySem.W.keepIn K (.ref fC) = true) (bC : Binds K fdC ["octet"] []) (gC : mg "_law_char" = some (.ref fC))
    (GS : FnOk P w K mg base CX0 1 fS fdS ["text"] spSimple) (kS : PySem.W.keepIn K (.ref fS) = true) (bS : Binds K fdS ["text"] []) (gS : mg "is_simple_name" = some (.ref fS)) : FnOk P w K mg base (L2.CX P w) 3 f fd ["job"] (spJ RStr pname) := by
  refine F.okX scLName (fun vs H Q E h => ?_) (fun cdv A outer s H vs Q E hr h => ?_)
  · obtain ⟨j, jo, os, n, rfl, _⟩ := h
    rfl
  · obtain ⟨j, jo, os, n, rfl, ja, O, q⟩ := h
    have hr1 := hr.mono (j := 1) (by decide)
    refine ⟨_, pss_cons (ps_set (i := 1) scLName.nd rfl (.inl rfl) (pe_ix ix_list (pv 0) pe_int (fun _ _ => rfl)))
      (pss_cons (ps_set (i := 2) scLName.nd rfl (.inl rfl) (pe_ix ix_list (pe_callS GT hr (by rfl) gT kT bT (fun σ => passAt (takes_of rfl rfl rfl rfl) σ) (pa_cons (pv 0) (pa_cons pe_int pa_nil))) pe_int (fun _ _ => rfl)))
      (pss_cons (ps_set (i := 3) scLName.nd rfl (.inl rfl) (pe_join pe_str (pe_lc (own := [("octet", 4)]) (g := gName 4) (tt := tYes) rfl scLName.nd (pi_list (pe_callS GT hr (by rfl) gT kT bT (fun σ => passAt (takes_of rfl rfl rfl rfl) σ) (pa_cons (pv 0) (pa_cons (pv 2) pa_nil))))
        (blkOk_by (N := ["job", "place", "size", "text", "octet"]) (sc := defScope sLName) (by decide +kernel))
        (fun _ _ _ _ _ => pg_name (i := 4) scLName.nd rfl (Or.inl rfl)) (fun _ _ _ _ _ => pts_nil) (fun _ _ _ _ _ => pe_call GC hr1 (by rfl) gC kC bC .nil pass0 (pa_cons (pv 4) pa_nil)))))
      (pss_cons (ps_if (pt_not (pt_val (pe_call GS hr1 (by rfl) gS kS bS .nil pass0 (pa_cons (pv 3) pa_nil)))) (pss_one (ps_expr (pe_callS GF hr1 (by rfl) gF kF bF (fun σ => passAt (takes_of rfl rfl rfl rfl) σ) (pa_cons (pv 0) (pa_cons pe_str (pa_cons (pv 1) pa_nil)))))) pss_nil)
      (pss_one (ps_ret (pv 3)))))), ?_⟩
    have q0 : Jst H j jo os (bd (p1 os n) fun k m => bd (tk k.toNat os m) fun xs j => if nmOk xs = true then .ok (txt xs, j) else .error (false, n)) RStr Q E := q
    refine ⟨_, rfl, j, _, 1, .int (n : Int), rfl, rfl, .inl (.inl ja.J), rfl, ?_⟩
    refine ⟨_, rfl, j, jo, os, n, 1, rfl, ja, ⟨fun xs m et H1 v x1 ja1 rl => ?_, fun t i et H' d ex hd => q0.bad (p1_bad et) ex hd⟩⟩
    obtain ⟨p1', rfl, e1⟩ := rl
    obtain ⟨xl, xm⟩ := tk_len et
    match xs, xl with
    | [k], _ =>
      have q1 := q0.next (p1_tk et) x1
      have k0 := O.o k (xm k (by simp))
      have hk : (k.toNat : Int) = k := Int.toNat_of_nonneg k0.1
      refine ⟨p1', _, 0, .int k, rfl, rfl, .inl (.inl e1), rfl, ?_⟩
      refine ⟨⟨_, rfl⟩, _, rfl, _, rfl, j, jo, os, m, k.toNat, by rw [hk], ja1, ⟨fun ys m2 et2 H2 v2 x2 ja2 rl2 => ?_, fun t i et2 H' d ex hd => q1.bad et2 ex hd⟩⟩
      obtain ⟨p2, rfl, e2⟩ := rl2
      have q2 := q1.next et2 x2
      obtain ⟨yl, ym⟩ := tk_len et2
      have yo : ∀ o ∈ ys, 0 ≤ o ∧ o ≤ 255 := fun o ho => O.o o (ym o ho)
      refine ⟨p2, rfl, ⟨_, .inl (.inl e2)⟩, fun D nD => ?_⟩
      refine lc_it (walk_list (xs := ys.map V.int)) (fun i H4 => Same H2 H4 ∧ H4 D = some (.lst ((((ys.map lcd).take i).map sg).map V.str))) ⟨same_new nD, upd_same⟩ (fun i H4 _ p => .inl (.inl (p.1 _ _ e2))) ?_ ?_
      · rintro i x H4 H' hi ⟨s4, hD⟩ ⟨rfl, hx⟩
        rw [List.length_map] at hi
        rw [List.getElem?_map, List.getElem?_eq_getElem hi] at hx
        obtain rfl := Option.some.inj hx
        refine ⟨rfl, ?_⟩
        dsimp only [tYes]
        rw [if_pos rfl]
        refine ⟨_, rfl, ys[i], rfl, (yo _ (List.getElem_mem hi)).1, _, hD, ?_, same_put s4 nD, ?_⟩
        · rw [List.length_map, List.length_map, List.length_take]
          exact small1000 (by omega)
        · rw [upd_same, List.take_add_one, List.getElem?_map, List.getElem?_eq_getElem hi, List.map_append, List.map_append]
          rfl
      · rintro H4 ⟨s4, hD⟩
        have e0 : (ys.map V.int).length = (ys.map lcd).length := by rw [List.length_map, List.length_map]
        rw [e0, List.take_length] at hD
        refine ⟨("" : Str), D, (ys.map lcd).map sg, rfl, rfl, .inl (.inl (.inl hD)), ?_, ?_⟩
        · rw [sg_sum, List.length_map]
          have e1 : ("" : Str).length = 0 := by decide +kernel
          rw [e1, Nat.mul_zero]
          exact Nat.le_of_lt (small1000 (by omega))
        · rw [join_txt]
          refine ⟨_, rfl, ltx ys, rfl, by rw [ltx_len]; omega, _, rfl, ?_⟩
          rw [ltx_simp]
          cases hs : nmOk ys with
          | true =>
            have et : (⟨(ys.map lcd).toArray⟩ : Str) = txt ys := ltx_ok (nmOk_all hs)
            exact iteF ⟨_, rfl, q2.ok _ _ (if_pos hs) H4 _ (Same.ex s4) (ja2.same s4) (congrArg V.str et)⟩
          | false =>
            have hbad : ¬ nmOk ys = true := by rw [hs]; decide
            exact iteT ⟨_, rfl, _, rfl, j, "Damaged", _, _, _, _, rfl, (ja2.same s4).J, fun H' tp d ex f1 f2 => q2.no false n (if_neg hbad) H' d ((Same.ex s4).trans ex) ⟨tp, _, _, f1, f2⟩⟩
end
end K2

namespace K2
open PySem L2
theorem ks_at3 {k : Int} (h : k ∈ [(0 : Int), 1, 2]) : atI [V.str "int", .str "flag", .str "text"] k = some (.str (KS.getD k.toNat "")) := by
  rcases List.mem_cons.mp h with rfl | h
  · exact atI_nat (j := 0) rfl
  rcases List.mem_cons.mp h with rfl | h
  · exact atI_nat (j := 1) rfl
  rcases List.mem_cons.mp h with rfl | h
  · exact atI_nat (j := 2) rfl
  cases h
section
variable {P : Program} {w : World} {K : PySem.W.Frag} {mg : Str → Option Value} {base : Heap}
structure LF (P : Program) (w : World) (K : PySem.W.Frag) (mg : Str → Option Value) (base : Heap) where
  (fF fT fU fN : Addr)
  (dF dT dU dN : FuncData)
  GF : FnOk P w K mg base (L2.CX P w) 1 fF dF ["job", "word", "place"] spFail
  kF : PySem.W.keepIn K (.ref fF) = true
  bF : Binds K dF ["job", "word", "place"] []
  gF : mg "_law_fail" = some (.ref fF)
  GT : FnOk P w K mg base (L2.CX P w) 2 fT dT ["job", "count"] spTake
  kT : PySem.W.keepIn K (.ref fT) = true
  bT : Binds K dT ["job", "count"] []
  gT : mg "_law_take" = some (.ref fT)
  GU : FnOk P w K mg base (L2.CX P w) 3 fU dU ["job"] (spJ RInt p4)
  kU : PySem.W.keepIn K (.ref fU) = true
  bU : Binds K dU ["job"] []
  gU : mg "_law_number" = some (.ref fU)
  GN : FnOk P w K mg base (L2.CX P w) 3 fN dN ["job"] (spJ RStr pname)
  kN : PySem.W.keepIn K (.ref fN) = true
  bN : Binds K dN ["job"] []
  gN : mg "_law_name" = some (.ref fN)
theorem scLRS : FnScope ["job", "place", "dims", "k", "name", "low", "high", "attrs", "at", "kind", "shape", "right"] ["job"] (defScope sLReadShape) := ⟨rfl, rfl, rfl, by decide +kernel, rfl, by decide +kernel, by decide +kernel⟩
theorem ok_lrs {f fI fK C CI : Addr} {fd fdI fdK : FuncData} (F : Fun K "_law_read_shape" "_law_read_shape" sLReadShape f fd) (M : Nm mg) (L : LF P w K mg base) (S : KC K C fI SHf) (GI : FnOk P w K mg base CX0 1 fI fdI ["self", "dims", "attrs"] (spShI C)) (bI : Binds K fdI ["self", "dims", "attrs"] []) (gC : mg "Shape" = some (.ref C))
    (GK : FnOk P w K mg base (L2N.CX P w) 3 fK fdK ["shape"] (spCheck C CI)) (kK : PySem.W.keepIn K (.ref fK) = true) (bK : Binds K fdK ["shape"] []) (gK : mg "check_shape" = some (.ref fK)) (gI : mg "InvalidShape" = some (.ref CI)) (ex : PySem.W.exmOne K (.ref CI) (.ref CI) = some true) :
    FnOk P w K mg base (L2.CX P w) 4 f fd ["job"] (spJ (RSp C) pshape) := by
  have GF := L.GF
  have GT := L.GT
  have GU := L.GU
  have GN := L.GN
  have GKX : FnOk P w K mg base (L2.CX P w) 3 fK fdK ["shape"] (spCheck C CI) := GK.toX
  refine F.okX scLRS (fun vs H Q E h => ?_) (fun cdv A outer s H vs Q E hr h => ?_)
  · obtain ⟨j, jo, os, n, rfl, _⟩ := h
    rfl
  · obtain ⟨j, jo, os, n, rfl, ja, O, q⟩ := h
    have hr1 := hr.mono (j := 1) (by decide)
    have hr2 := hr.mono (j := 2) (by decide)
    refine ⟨_, pss_cons (ps_set (i := 1) scLRS.nd rfl (.inl rfl) (pe_ix ix_list (pv 0) pe_int (fun _ _ => rfl)))
      (pss_cons (ps_set (i := 2) scLRS.nd rfl (.inl rfl) (pe_lst pa_nil))
      (Evl.pss_cut (ps_for (passes_of rfl) rfl (pi_range1 (by rfl) M.range (pa_cons (pe_ix ix_list (pe_callS GT hr2 (by rfl) L.gT L.kT L.bT (fun σ => passAt (takes_of rfl rfl rfl rfl) σ) (pa_cons (pv 0) (pa_cons pe_int pa_nil))) pe_int (fun _ _ => rfl)) pa_nil)) (pg_name (i := 3) scLRS.nd rfl (.inl rfl))
        (pss_cons (ps_set (i := 4) scLRS.nd rfl (.inl rfl) (pe_callS GN hr (by rfl) L.gN L.kN L.bN (fun σ => passAt (takes_of rfl rfl rfl rfl) σ) (pa_cons (pv 0) pa_nil)))
        (pss_cons (ps_set (i := 5) scLRS.nd rfl (.inl rfl) (pe_op op_sub (pe_callS GU hr (by rfl) L.gU L.kU L.bU (fun σ => passAt (takes_of rfl rfl rfl rfl) σ) (pa_cons (pv 0) pa_nil)) pe_int))
        (pss_cons (ps_set (i := 6) scLRS.nd rfl (.inl rfl) (pe_op op_sub (pe_callS GU hr (by rfl) L.gU L.kU L.bU (fun σ => passAt (takes_of rfl rfl rfl rfl) σ) (pa_cons (pv 0) pa_nil)) pe_int))
        (pss_one (ps_expr (pe_bm PySem.F.plainAttrs_list PySem.F.slot_list_append PySem.F.type_list_append mt_append (pv 2) (pa_cons (pe_tup (pa_cons (pv 4) (pa_cons (pv 5) (pa_cons (pv 6) (pa_cons (pe_callS GU hr (by rfl) L.gU L.kU L.bU (fun σ => passAt (takes_of rfl rfl rfl rfl) σ) (pa_cons (pv 0) pa_nil)) pa_nil))))) pa_nil))))))))
      (pss_cons (ps_set (i := 7) scLRS.nd rfl (.inl rfl) (pe_lst pa_nil))
      (Evl.pss_cut (ps_for (passes_of rfl) rfl (pi_range1 (by rfl) M.range (pa_cons (pe_ix ix_list (pe_callS GT hr2 (by rfl) L.gT L.kT L.bT (fun σ => passAt (takes_of rfl rfl rfl rfl) σ) (pa_cons (pv 0) (pa_cons pe_int pa_nil))) pe_int (fun _ _ => rfl)) pa_nil)) (pg_name (i := 3) scLRS.nd rfl (.inl rfl))
        (pss_cons (ps_set (i := 4) scLRS.nd rfl (.inl rfl) (pe_callS GN hr (by rfl) L.gN L.kN L.bN (fun σ => passAt (takes_of rfl rfl rfl rfl) σ) (pa_cons (pv 0) pa_nil)))
        (pss_cons (ps_set (i := 8) scLRS.nd rfl (.inl rfl) (pe_ix ix_list (pv 0) pe_int (fun _ _ => rfl)))
        (pss_cons (ps_set (i := 9) scLRS.nd rfl (.inl rfl) (pe_ix ix_list (pe_callS GT hr2 (by rfl) L.gT L.kT L.bT (fun σ => passAt (takes_of rfl rfl rfl rfl) σ) (pa_cons (pv 0) (pa_cons pe_int pa_nil))) pe_int (fun _ _ => rfl)))
        (pss_cons (ps_if (pt_cmpR op_gt (pv 9) pe_int (nomark _)) (pss_one (ps_expr (pe_callS GF hr1 (by rfl) L.gF L.kF L.bF (fun σ => passAt (takes_of rfl rfl rfl rfl) σ) (pa_cons (pv 0) (pa_cons pe_str (pa_cons (pv 8) pa_nil)))))) pss_nil)
        (pss_one (ps_expr (pe_bm PySem.F.plainAttrs_list PySem.F.slot_list_append PySem.F.type_list_append mt_append (pv 7) (pa_cons (pe_tup (pa_cons (pv 4) (pa_cons (pe_ix ix_list (pe_lst (pa_cons pe_str (pa_cons pe_str (pa_cons pe_str pa_nil)))) (pv 9) (fun _ _ => rfl)) pa_nil))) pa_nil)))))))))
      (pss_cons (ps_set (i := 10) scLRS.nd rfl (.inl rfl) (pe_make S.mkC GI hr2 (by rfl) gC bI .nil pass0 (pa_cons (pe_callTy call_tuple_of (by rfl) M.tuple (by decide +kernel) (pa_cons (pv 2) pa_nil)) (pa_cons (pe_callTy call_tuple_of (by rfl) M.tuple (by decide +kernel) (pa_cons (pv 7) pa_nil)) pa_nil))))
      (pss_cons (ps_set (i := 11) scLRS.nd rfl (.inl rfl) pe_bl)
      (Evl.pss_cut (ps_try_only rfl rfl ⟨rfl, by decide, .inl gI⟩ (takes_of rfl rfl rfl rfl)
        (fun W pn xe tk po => pss_one (ps_expr (pe_callS GKX hr (by rfl) gK kK bK (fun σ => passAt tk σ) (pa_cons (pv 10) pa_nil))))
        (fun a oe cls d pn hz hf => pss_one (ps_set (i := 11) scLRS.nd rfl (.inl rfl) pe_bl)))
      (pss_cons (ps_if (pt_not (pt_val (pv 11))) (pss_one (ps_expr (pe_callS GF hr1 (by rfl) L.gF L.kF L.bF (fun σ => passAt (takes_of rfl rfl rfl rfl) σ) (pa_cons (pv 0) (pa_cons pe_str (pa_cons (pv 1) pa_nil)))))) pss_nil)
      (pss_one (ps_ret (pv 10))))))))))), ?_⟩
    have q0 : Jst H j jo os (bd (p1 os n) fun a m => bd (rep (fun _ => pdim os) a.toNat m) fun ds m => bd (p1 os m) fun b m => bd (rep (fun _ => pattr os) b.toNat m) fun ts m => if chk ds ts = true then .ok ((ds, ts), m) else .error (false, n)) (RSp C) Q E := q
    refine ⟨_, rfl, j, _, 1, .int (n : Int), rfl, rfl, .inl (.inl ja.J), rfl, ?_⟩
    refine ⟨Nat.zero_le _, fun pd npd => ?_⟩
    have s1 := same_new (o := .lst []) npd
    have ja1 := ja.same s1
    have npj : pd ≠ j := jt_ne ja npd
    refine ⟨fun σ H2 => ∃ y3 y4 y5 y6 k m0 xs ds m, σ = [some (.ref j), some (.int (n : Int)), some (.ref pd), y3, y4, y5, y6, none, none, none, none, none] ∧ p1 os n = .ok (k, m0) ∧ rep (fun _ => pdim os) k.toNat m0 = .ok (ds, m) ∧ Ex H H2 j ∧ JAt H2 j jo os m ∧ H2 pd = some (.lst xs) ∧ All (RDi H2) xs ds, ?_, ?_⟩
    · refine ⟨_, rfl, j, jo, os, n, 1, rfl, ja1, ⟨fun zs m0 et H2 v x2 ja2 rl => ?_, fun t i et H' d ex hd => q0.bad (p1_bad et) ((Same.ex s1).trans ex) hd⟩⟩
      obtain ⟨p1', rfl, e1⟩ := rl
      obtain ⟨zl, zm⟩ := tk_len et
      match zs, zl with
      | [k], _ =>
        have ek := p1_tk et
        have q1 := q0.next ek (show Ex H H j from fun _ _ e _ => e)
        have k0 := O.o k (zm k (by simp))
        refine ⟨p1', _, 0, .int k, rfl, rfl, .inl (.inl e1), rfl, ?_⟩
        refine ⟨k, rfl, by omega, by omega, for_range (lo := 0) (n := k.toNat) (fun i σ H5 => ∃ y3 y4 y5 y6 xs l m, σ = [some (.ref j), some (.int (n : Int)), some (.ref pd), y3, y4, y5, y6, none, none, none, none, none] ∧ rep (fun _ => pdim os) i m0 = .ok (l, m) ∧ Ex H H5 j ∧ JAt H5 j jo os m ∧ H5 pd = some (.lst xs) ∧ All (RDi H5) xs l) ?_ ?_ ?_⟩
        · exact ⟨_, _, _, _, [], [], m0, rfl, rfl, (Same.ex s1).trans x2, ja2, x2 _ _ upd_same npj, All.nil⟩
        · rintro i σ H5 hi ⟨y3, y4, y5, y6, xs, l, m, rfl, er, x5, ja5, ep5, al⟩
          have xl := al.1
          rw [rep_len er] at xl
          have st : Jst H5 j jo os (bd (pname os m) fun s m => bd (p4 os m) fun l m => bd (p4 os m) fun h m => bd (p4 os m) fun st m => .ok (⟨s, l - 2147483648, h - 2147483648, st⟩, m)) (fun _ _ (_ : D) => True) (fun _ _ => True) E :=
            ⟨fun _ _ _ _ _ _ _ _ => trivial, fun t ii e H' d x2 hd => q1.bad (rep_err (Nat.succ_le_of_lt hi) (by rw [rep_succ er]; exact bd_err e)) (x5.trans x2) hd⟩
          refine ⟨_, rfl, j, jo, os, m, rfl, ja5, O, ⟨fun s m2 es H6 v6 x6 ja6 rl6 => ?_, fun t i et H' d ex hd => st.bad et ex hd⟩⟩
          obtain rfl : v6 = .str s := rl6
          have st2 := st.next es x6
          refine ⟨_, rfl, j, jo, os, m2, rfl, ja6, O, ⟨fun lw m3 el H7 v7 x7 ja7 rl7 => ?_, fun t i et H' d ex hd => st2.bad et ex hd⟩⟩
          obtain rfl : v7 = .int lw := rl7
          have st3 := st2.next el x7
          refine ⟨_, _, rfl, rfl, _, rfl, j, jo, os, m3, rfl, ja7, O, ⟨fun hg m4 eh H8 v8 x8 ja8 rl8 => ?_, fun t i et H' d ex hd => st3.bad et ex hd⟩⟩
          obtain rfl : v8 = .int hg := rl8
          have st4 := st3.next eh x8
          have x58 := x6.trans (x7.trans x8)
          have ep8 := x58 _ _ ep5 npj
          refine ⟨_, _, rfl, rfl, _, rfl, .inl ⟨rfl, _, .inl (.inl ep8)⟩, _, rfl, _, rfl, _, rfl, _, rfl, j, jo, os, m4, rfl, ja8, O, ⟨fun sp m5 esp H9 v9 x9 ja9 rl9 => ⟨(by show 4 ≤ sizeLine; decide), fun t nt => ?_⟩, fun t i et H' d ex hd => st4.bad et ex hd⟩⟩
          obtain rfl : v9 = .int sp := rl9
          have x59 := x58.trans x9
          have s10 := same_new (o := .tup [.str s, .int (lw - 2147483648), .int (hg - 2147483648), .int sp]) nt
          have ep10 := s10 _ _ (x9 _ _ ep8 npj)
          have epk : pdim os m = .ok (⟨s, lw - 2147483648, hg - 2147483648, sp⟩, m5) := by
            unfold pdim
            rw [bd_ok es, bd_ok el, bd_ok eh, bd_ok esp]
          have kp : Kp H5 (upd (upd H9 t (.tup [.str s, .int (lw - 2147483648), .int (hg - 2147483648), .int sp])) pd (.lst (xs ++ [.ref t]))) := kp_put ((x59.same s10).kpJ ja5) ep10
          refine ⟨pd, xs, .ref t, rfl, rfl, ep10, small1000 (by omega), _, _, _, _, xs ++ [.ref t], l ++ [⟨s, lw - 2147483648, hg - 2147483648, sp⟩], m5, rfl, by rw [rep_succ er, bd_ok epk], ((x5.trans x59).same s10).put npd, JAt.put ja (ja9.same s10) npd, upd_same, ?_⟩
          refine All.push (al.imp fun y d h => RowAt.kp h kp) ⟨t, rfl, ?_⟩
          exact kp_put (H := upd H9 t _) (fun b xs e => e) ep10 _ _ upd_same
        · rintro σ H5 ⟨y3, y4, y5, y6, xs, l, m, rfl, er, x5, ja5, ep5, al⟩
          exact ⟨_, _, _, _, k, m0, xs, l, m, rfl, ek, er, x5, ja5, ep5, al⟩
    rintro σ H2 ⟨y3, y4, y5, y6, k, m0, xs, ds, m, rfl, ek, er, x2, ja2, ep2, al2⟩
    have q2 := (q0.next ek (show Ex H H j from fun _ _ e _ => e)).next er x2
    refine ⟨Nat.zero_le _, fun pa npa => ?_⟩
    have s3 := same_new (o := .lst []) npa
    have ja3 := ja2.same s3
    have npaj : pa ≠ j := jt_ne ja2 npa
    refine ⟨fun σ H4 => ∃ y3 y4 y8 y9 k2 m2 ys ts m3, σ = [some (.ref j), some (.int (n : Int)), some (.ref pd), y3, y4, y5, y6, some (.ref pa), y8, y9, none, none] ∧ p1 os m = .ok (k2, m2) ∧ rep (fun _ => pattr os) k2.toNat m2 = .ok (ts, m3) ∧ Ex H2 H4 j ∧ JAt H4 j jo os m3 ∧ H4 pa = some (.lst ys) ∧ All (RAt' H4) ys ts, ?_, ?_⟩
    · refine ⟨_, rfl, j, jo, os, m, 1, rfl, ja3, ⟨fun zs m2 et H4 v x4 ja4 rl => ?_, fun t i et H' d ex hd => q2.bad (p1_bad et) ((Same.ex s3).trans ex) hd⟩⟩
      obtain ⟨p1', rfl, e1⟩ := rl
      obtain ⟨zl, zm⟩ := tk_len et
      match zs, zl with
      | [k2], _ =>
        have ek2 := p1_tk et
        have q3 := q2.next ek2 (show Ex H2 H2 j from fun _ _ e _ => e)
        have k0 := O.o k2 (zm k2 (by simp))
        refine ⟨p1', _, 0, .int k2, rfl, rfl, .inl (.inl e1), rfl, ?_⟩
        refine ⟨k2, rfl, by omega, by omega, for_range (lo := 0) (n := k2.toNat) (fun i σ H5 => ∃ y3 y4 y8 y9 ys l m, σ = [some (.ref j), some (.int (n : Int)), some (.ref pd), y3, y4, y5, y6, some (.ref pa), y8, y9, none, none] ∧ rep (fun _ => pattr os) i m2 = .ok (l, m) ∧ Ex H2 H5 j ∧ JAt H5 j jo os m ∧ H5 pa = some (.lst ys) ∧ All (RAt' H5) ys l) ?_ ?_ ?_⟩
        · exact ⟨_, _, _, _, [], [], m2, rfl, rfl, (Same.ex s3).trans x4, ja4, x4 _ _ upd_same npaj, All.nil⟩
        · rintro i σ H5 hi ⟨y3, y4, y8, y9, ys, l, m5, rfl, er5, x5, ja5, ep5, al⟩
          have xl := al.1
          rw [rep_len er5] at xl
          have st : Jst H5 j jo os (bd (pname os m5) fun s m => bd (pof [0, 1, 2] os m) fun k m => .ok (⟨s, KS.getD k.toNat ""⟩, m)) (fun _ _ (_ : T) => True) (fun _ _ => True) E :=
            ⟨fun _ _ _ _ _ _ _ _ => trivial, fun t ii e H' d x2 hd => q3.bad (rep_err (Nat.succ_le_of_lt hi) (by rw [rep_succ er5]; exact bd_err e)) (x5.trans x2) hd⟩
          refine ⟨_, rfl, j, jo, os, m5, rfl, ja5, O, ⟨fun s m6 es H6 v6 x6 ja6 rl6 => ?_, fun t i et H' d ex hd => st.bad et ex hd⟩⟩
          obtain rfl : v6 = .str s := rl6
          have st2 := st.next es x6
          refine ⟨_, rfl, j, _, 1, .int (m6 : Int), rfl, rfl, .inl (.inl ja6.J), rfl, ?_⟩
          refine ⟨_, rfl, j, jo, os, m6, 1, rfl, ja6, ⟨fun ws m7 et7 H7 v7 x7 ja7 rl7 => ?_, fun t i et H' d ex hd => st2.bad (by unfold pof; exact bd_err (p1_bad et)) ex hd⟩⟩
          obtain ⟨p7, rfl, e7⟩ := rl7
          obtain ⟨wl, wm⟩ := tk_len et7
          match ws, wl with
          | [kd], _ =>
            have ekd := p1_tk et7
            have kd0 := O.o kd (wm kd (by simp))
            have x57 := x6.trans x7
            have ep7 := x57 _ _ ep5 npaj
            refine ⟨p7, _, 0, .int kd, rfl, rfl, .inl (.inl e7), rfl, ?_⟩
            refine ⟨_, rfl, _, _, rfl, rfl, _, rfl, ?_⟩
            by_cases hk : kd ∈ [(0 : Int), 1, 2]
            case neg =>
              have hgt : kd > 2 := by
                refine Int.lt_of_not_ge fun z => hk ?_
                have : kd = 0 ∨ kd = 1 ∨ kd = 2 := by omega
                rcases this with rfl | rfl | rfl <;> decide
              refine iteB (decide_eq_true hgt) ⟨_, rfl, _, rfl, j, "Damaged", _, _, _, _, rfl, ja7.J, fun H' tp d ex f1 f2 => st2.bad (t := false) (i := m6) ?_ (x7.trans ex) ⟨tp, _, _, f1, f2⟩⟩
              unfold pof
              rw [bd_ok ekd, if_neg hk]
            have hle : ¬ kd > 2 := by
              rcases List.mem_cons.mp hk with rfl | h
              · decide
              rcases List.mem_cons.mp h with rfl | h
              · decide
              rcases List.mem_cons.mp h with rfl | h
              · decide
              cases h
            refine iteBF (decide_eq_false hle) ?_
            refine ⟨_, rfl, .inl ⟨rfl, _, .inl (.inl ep7)⟩, _, rfl, (by show 3 ≤ sizeLine; decide), fun lk nlk => ?_⟩
            have s8 := same_new (o := .lst [V.str "int", .str "flag", .str "text"]) nlk
            refine ⟨_, rfl, lk, _, kd, .str (KS.getD kd.toNat ""), rfl, rfl, .inl (.inl upd_same), ks_at3 hk, (by show 2 ≤ sizeLine; decide), fun t nt => ?_⟩
            have s9 := same_new (o := .tup [V.str s, .str (KS.getD kd.toNat "")]) nt
            have ep9 := s9 _ _ (s8 _ _ ep7)
            have x59 := (x57.same s8).same s9
            have epk : pattr os m5 = .ok (⟨s, KS.getD kd.toNat ""⟩, m7) := by
              unfold pattr pof
              rw [bd_ok es, bd_ok ekd, if_pos hk]
              rfl
            have kp : Kp H5 (upd (upd (upd H7 lk (.lst [V.str "int", .str "flag", .str "text"])) t (.tup [V.str s, .str (KS.getD kd.toNat "")])) pa (.lst (ys ++ [.ref t]))) := kp_put (x59.kpJ ja5) ep9
            refine ⟨pa, ys, .ref t, rfl, rfl, ep9, small1000 (by omega), _, _, _, _, ys ++ [.ref t], l ++ [⟨s, KS.getD kd.toNat ""⟩], m7, rfl, by rw [rep_succ er5, bd_ok epk], (x5.trans x59).put npa, JAt.put ja2 ((ja7.same s8).same s9) npa, upd_same, ?_⟩
            refine All.push (al.imp fun y d h => RowAt.kp h kp) ⟨t, rfl, ?_⟩
            exact kp_put (H := upd (upd H7 lk (.lst [V.str "int", .str "flag", .str "text"])) t (.tup [V.str s, .str (KS.getD kd.toNat "")])) (fun b xs e => e) ep9 _ _ upd_same
        · rintro σ H5 ⟨y3, y4, y8, y9, ys, l, m5, rfl, er5, x5, ja5, ep5, al⟩
          exact ⟨_, _, _, _, k2, m2, ys, l, m5, rfl, ek2, er5, x5, ja5, ep5, al⟩
    rintro σ H4 ⟨y3, y4, y8, y9, k2, m2, ys, ts, m3, rfl, ek2, er2, x4, ja4, ep4, al4⟩
    have q4 := (q2.next ek2 (show Ex H2 H2 j from fun _ _ e _ => e)).next er2 x4
    have epd4 := x4 _ _ ep2 npj
    have alD : All (RDi H4) xs ds := al2.imp fun y d h => RowAt.kp h (x4.kpJ ja2)
    refine ⟨_, rfl, pd, xs, rfl, .inl ⟨.inl (.inl epd4), fun t1 m1 => ?_⟩⟩
    refine ⟨_, rfl, pa, ys, rfl, .inl ⟨.inl (.inl (same_new m1 _ _ ep4)), fun t2 m2' => ?_⟩⟩
    intro a dxa na ndxa nae
    refine ⟨a, dxa, .ref t1, .ref t2, rfl, upd_same, fun H5 x5 e5 => ⟨rfl, ?_⟩⟩
    have s45 : Same H4 H5 := (same_new m1).trans ((same_new m2').trans (mk_same na ndxa x5))
    have t1e : H5 t1 = some (.tup xs) := mk_same na ndxa x5 _ _ (same_new m2' _ _ upd_same)
    have t2e : H5 t2 = some (.tup ys) := mk_same na ndxa x5 _ _ upd_same
    have sh5 : ShAt H5 C (.ref a) ds ts := ⟨a, dxa, .ref t1, .ref t2, rfl, e5, ⟨t1, xs, rfl, t1e, alD.imp fun y d h => RowAt.same h s45⟩, ⟨t2, ys, rfl, t2e, al4.imp fun y d h => RowAt.same h s45⟩⟩
    refine ⟨fun σ H6 => ∃ b, σ = [some (.ref j), some (.int (n : Int)), some (.ref pd), y3, y4, y5, y6, some (.ref pa), y8, y9, some (.ref a), some (.bl b)] ∧ chk ds ts = b ∧ Same H5 H6, ?_, ?_⟩
    · exact ⟨_, rfl, .ref a, ds, ts, rfl, sh5, rep_all (fun _ _ _ _ h => pdim_ok h) er, rep_all (fun _ _ _ _ h => pattr_ok h) er2, fun hc H6 s6 => ⟨true, rfl, hc, s6⟩, fun hc H6 d s6 => ⟨true, ex, fun _ a na => ⟨false, rfl, hc, s6⟩, fun z => by cases z⟩⟩
    · rintro σ H6 ⟨b, rfl, hc, s6⟩
      have s46 := s45.trans s6
      refine ⟨_, rfl, b, rfl, ?_⟩
      cases b with
      | true =>
        rw [hc] at q4
        exact iteF ⟨_, rfl, q4.ok _ _ (if_pos rfl) H6 _ (Same.ex s46) (ja4.same s46) (sh5.same s6)⟩
      | false =>
        rw [hc] at q4
        exact iteT ⟨_, rfl, _, rfl, j, "Damaged", _, _, _, _, rfl, (ja4.same s46).J, fun H' tp d ex f1 f2 => q4.no false n (if_neg (by decide)) H' d ((Same.ex s46).trans ex) ⟨tp, _, _, f1, f2⟩⟩
end
end K2

namespace K2
open PySem L2
theorem inBx_at {ds : List D} {c : List Int} {j : Nat} (hc : j < c.length) (hd : j < ds.length) (h : ¬ c[j] ≤ mx ds[j]) : inBx ds c = false := by
  rw [← bls_all, Bool.eq_false_iff]
  intro z
  have := (List.all_eq_true.mp z) _ (List.mem_of_getElem? (bls_at hc hd))
  rw [decide_eq_false h] at this
  cases this
theorem inBx_all {ds : List D} {c : List Int} (hl : c.length = ds.length) (h : ∀ (j : Nat) (hc : j < c.length) (hd : j < ds.length), c[j] ≤ mx ds[j]) : inBx ds c = true := by
  rw [← bls_all, List.all_eq_true]
  intro b hb
  obtain ⟨j, hj, e⟩ := List.getElem_of_mem hb
  have hj2 : j < c.length ∧ j < ds.length := by
    unfold bls at hj
    rw [List.length_zipWith] at hj
    omega
  have := bls_at hj2.1 hj2.2
  rw [List.getElem?_eq_getElem hj, e, decide_eq_true (h j hj2.1 hj2.2)] at this
  exact Option.some.inj this
theorem mx_iff {d : D} {x : Int} (h : 1 ≤ d.s) : (d.l + x * d.s > d.h) ↔ ¬ x ≤ mx d := by
  unfold mx
  rw [Int.le_ediv_iff_mul_le (by omega)]
  omega
section
variable {P : Program} {w : World} {K : PySem.W.Frag} {mg : Str → Option Value} {base : Heap}
def spLRC (C : Addr) : Sp := fun vs H Q E => ∃ (j jo : Addr) (v : V) (os : List Int) (n : Nat) (ds : List D) (ts : List T), vs = [.ref j, v] ∧ JAt H j jo os n ∧ Os os ∧ ShAt H C v ds ts ∧ chk ds ts = true ∧ Jst H j jo os (pcks ds os n) RCs Q E
theorem scLRC : FnScope ["job", "shape", "chunks", "k", "place", "chunk", "dim", "j", "name", "low", "high", "step", "offset"] ["job", "shape"] (defScope sLReadChunks) := ⟨rfl, rfl, rfl, by decide +kernel, rfl, by decide +kernel, by decide +kernel⟩
theorem ok_lrc {f fI C : Addr} {fd : FuncData} (F : Fun K "_law_read_chunks" "_law_read_chunks" sLReadChunks f fd) (M : Nm mg) (L : LF P w K mg base) (S : KC K C fI SHf) : FnOk P w K mg base (L2.CX P w) 4 f fd ["job", "shape"] (spLRC C) := by
  have GF := L.GF
  have GU := L.GU
  refine F.okX scLRC (fun vs H Q E h => ?_) (fun cdv A outer s H vs Q E hr h => ?_)
  · obtain ⟨j, jo, v, os, n, ds, ts, rfl, _⟩ := h
    rfl
  · obtain ⟨j, jo, v, os, n, ds, ts, rfl, ja, O, sh, hchk, q⟩ := h
    have hr1 := hr.mono (j := 1) (by decide)
    refine ⟨_, pss_cons (ps_set (i := 2) scLRC.nd rfl (.inl rfl) (pe_lst pa_nil))
      (pss_cons (ps_for (passes_of rfl) rfl (pi_range1 (by rfl) M.range (pa_cons (pe_callS GU hr (by rfl) L.gU L.kU L.bU (fun σ => passAt (takes_of rfl rfl rfl rfl) σ) (pa_cons (pv 0) pa_nil)) pa_nil)) (pg_name (i := 3) scLRC.nd rfl (.inl rfl))
        (pss_cons (ps_set (i := 4) scLRC.nd rfl (.inl rfl) (pe_ix ix_list (pv 0) pe_int (fun _ _ => rfl)))
        (pss_cons (ps_set (i := 5) scLRC.nd rfl (.inl rfl) (pe_lst pa_nil))
        (Evl.pss_cut (ps_for (passes_of rfl) rfl (pi_tup (pe_fld (pv 1) rfl)) (pg_name (i := 6) scLRC.nd rfl (.inl rfl))
          (pss_one (ps_expr (pe_bm PySem.F.plainAttrs_list PySem.F.slot_list_append PySem.F.type_list_append mt_append (pv 5) (pa_cons (pe_callS GU hr (by rfl) L.gU L.kU L.bU (fun σ => passAt (takes_of rfl rfl rfl rfl) σ) (pa_cons (pv 0) pa_nil)) pa_nil)))))
        (Evl.pss_cut (ps_for (passes_of rfl) rfl (pi_range1 (by rfl) M.range (pa_cons (pe_callB call_len_seq (by rfl) M.len PySem.boot_len (pa_cons (pv 5) pa_nil)) pa_nil)) (pg_name (i := 7) scLRC.nd rfl (.inl rfl))
          (pss_cons (ps_asg (pe_ix ix_tup (pe_fld (pv 1) rfl) (pv 7) (fun _ _ => rfl)) (pg_tup (by rfl) (pgs_cons (pg_name (i := 8) scLRC.nd rfl (.inl rfl)) (pgs_cons (pg_name (i := 9) scLRC.nd rfl (.inl rfl)) (pgs_cons (pg_name (i := 10) scLRC.nd rfl (.inl rfl)) (pgs_cons (pg_name (i := 11) scLRC.nd rfl (.inl rfl)) pgs_nil))))))
          (pss_one (ps_if (pt_cmpR op_gt (pe_op op_add (pv 9) (pe_op op_mul (pe_ix ix_list (pv 5) (pv 7) (fun _ _ => rfl)) (pv 11))) (pv 10) (nomark _)) (pss_one (ps_expr (pe_callS GF hr1 (by rfl) L.gF L.kF L.bF (fun σ => passAt (takes_of rfl rfl rfl rfl) σ) (pa_cons (pv 0) (pa_cons pe_str (pa_cons (pv 4) pa_nil)))))) pss_nil))))
        (Evl.pss_cut (ps_if (PW.pt (pw_and (pt_cmpR op_gt (pe_callB call_len_seq (by rfl) M.len PySem.boot_len (pa_cons (pv 2) pa_nil)) pe_int (nomark _)) (pw_and1 (pt_not (pt_cmpR (op_ltT hr.units0) (pe_ix ix_tup (pe_ix ix_list (pv 2) (pe_op op_sub (pe_callB call_len_seq (by rfl) M.len PySem.boot_len (pa_cons (pv 2) pa_nil)) pe_int) (fun _ _ => rfl)) pe_int (fun _ _ => rfl)) (pe_callTy call_tuple_of (by rfl) M.tuple (by decide +kernel) (pa_cons (pv 5) pa_nil)) (nomark _))))))
            (pss_one (ps_expr (pe_callS GF hr1 (by rfl) L.gF L.kF L.bF (fun σ => passAt (takes_of rfl rfl rfl rfl) σ) (pa_cons (pv 0) (pa_cons pe_str (pa_cons (pv 4) pa_nil)))))) pss_nil)
        (pss_cons (ps_set (i := 12) scLRC.nd rfl (.inl rfl) (pe_callS GU hr (by rfl) L.gU L.kU L.bU (fun σ => passAt (takes_of rfl rfl rfl rfl) σ) (pa_cons (pv 0) pa_nil)))
        (pss_one (ps_expr (pe_bm PySem.F.plainAttrs_list PySem.F.slot_list_append PySem.F.type_list_append mt_append (pv 2) (pa_cons (pe_tup (pa_cons (pe_callTy call_tuple_of (by rfl) M.tuple (by decide +kernel) (pa_cons (pv 5) pa_nil)) (pa_cons (pv 12) (pa_cons (pe_callS GU hr (by rfl) L.gU L.kU L.bU (fun σ => passAt (takes_of rfl rfl rfl rfl) σ) (pa_cons (pv 0) pa_nil)) pa_nil)))) pa_nil)))))))))))
      (pss_one (ps_ret (pe_callTy call_tuple_of (by rfl) M.tuple (by decide +kernel) (pa_cons (pv 2) pa_nil))))), ?_⟩
    obtain ⟨a, dx, v1, v2, rfl, ha, ⟨td, xs, rfl, htd, had⟩, _⟩ := sh
    have hxl := had.1
    have n1 : NoAttr K C "dims" := S.na _ (by decide +kernel)
    obtain ⟨dl6, dl1, okd⟩ := chk_ok hchk
    have naj : a ≠ j := ne_of ha ja.J (by intro z; cases z)
    have ntd : td ≠ j := ne_of htd ja.J (by intro z; cases z)
    have q0 : Jst H j jo os (bd (p4 os n) fun k m => rep (pck ds os) k.toNat m) RCs Q E := q
    refine ⟨Nat.zero_le _, fun pc npc => ?_⟩
    have s1 := same_new (o := .lst []) npc
    have ja1 := ja.same s1
    have npj : pc ≠ j := jt_ne ja npc
    refine ⟨_, rfl, j, jo, os, n, rfl, ja1, O, ⟨fun k m0 ek H2 v2' x2 ja2 rl2 => ?_, fun t i et H' d ex hd => q0.bad et ((Same.ex s1).trans ex) hd⟩⟩
    obtain rfl : v2' = .int k := rl2
    have kb := (p4_ok ek O).1
    refine ⟨k, rfl, by omega, by omega, for_range (lo := 0) (n := k.toNat) (fun i σ H5 => ∃ y3 y4 y5 y6 y7 y8 y9 y10 y11 y12 ws l m, σ = [some (.ref j), some (.ref a), some (.ref pc), y3, y4, y5, y6, y7, y8, y9, y10, y11, y12] ∧ rep (pck ds os) i m0 = .ok (l, m) ∧ Ex H H5 j ∧ JAt H5 j jo os m ∧ H5 pc = some (.lst ws) ∧ All (CkAt H5) ws l) ?_ ?_ ?_⟩
    · exact ⟨_, _, _, _, _, _, _, _, _, _, [], [], m0, rfl, rfl, (Same.ex s1).trans x2, ja2, x2 _ _ upd_same npj, All.nil⟩
    · rintro i σ H5 hi ⟨y3, y4, y5, y6, y7, y8, y9, y10, y11, y12, ws, l, m, rfl, er5, x5, ja5, ep5, al⟩
      have xl := al.1
      rw [rep_len er5] at xl
      have hm := ja5.le
      have hol := O.l
      have hil := rep_lt (fun _ _ _ _ z => pck_lt z) er5
      have st : Jst H5 j jo os (bd (rep (fun _ => p4 os) ds.length m) fun c j => if inBx ds c = true ∧ (∀ x ∈ l.getLast?, HT.lexLt x.c c = true) then bd (p4 os j) fun o m => bd (p4 os m) fun len m => .ok (⟨c, o, len⟩, m) else .error (false, m)) (fun _ _ (_ : Ck) => True) (fun _ _ => True) E :=
        ⟨fun _ _ _ _ _ _ _ _ => trivial, fun t ii e H' d x2 hd => q0.no t ii (by rw [bd_ok ek]; exact rep_err (Nat.succ_le_of_lt hi) (by rw [rep_succ er5]; exact bd_err e)) H' d (x5.trans x2) hd⟩
      have ha5 := x5 _ _ ha naj
      have htd5 := x5 _ _ htd ntd
      refine ⟨_, rfl, j, _, 1, .int (m : Int), rfl, rfl, .inl (.inl ja5.J), rfl, ?_⟩
      refine ⟨Nat.zero_le _, fun pk npk => ?_⟩
      have s6 := same_new (o := .lst []) npk
      have ja6 := ja5.same s6
      have nkj : pk ≠ j := jt_ne ja5 npk
      have nck : pc ≠ pk := ne_of_none ep5 npk
      refine ⟨fun σ H7 => ∃ y6 c m1, σ = [some (.ref j), some (.ref a), some (.ref pc), some (.int (0 + (i : Int))), some (.int (m : Int)), some (.ref pk), y6, y7, y8, y9, y10, y11, y12] ∧ rep (fun _ => p4 os) ds.length m = .ok (c, m1) ∧ Ex H5 H7 j ∧ JAt H7 j jo os m1 ∧ H7 pk = some (.lst (c.map V.int)), ?_, ?_⟩
      · refine ⟨_, rfl, a, C, dx, _, .ref td, rfl, same_new npk _ _ ha5, S.cl, n1, rfl, td, rfl, ⟨_, SqT.of (same_new npk _ _ htd5)⟩, for_it (walk_tup (xs := xs)) (fun i' σ H7 => ∃ y6 c m1, σ = [some (.ref j), some (.ref a), some (.ref pc), some (.int (0 + (i : Int))), some (.int (m : Int)), some (.ref pk), y6, y7, y8, y9, y10, y11, y12] ∧ rep (fun _ => p4 os) i' m = .ok (c, m1) ∧ Ex H5 H7 j ∧ JAt H7 j jo os m1 ∧ H7 pk = some (.lst (c.map V.int))) ?_ ?_ ?_ ?_⟩
        · exact ⟨_, [], m, rfl, rfl, Same.ex s6, ja6, upd_same⟩
        · rintro i' σ H7 hi' ⟨y6, c, m1, rfl, er, x7, ja7, ek7⟩
          exact SqT.of (x7 _ _ htd5 ntd)
        · rintro i' x σ H7 H7' hi' ⟨y6, c, m1, rfl, er, x7, ja7, ek7⟩ ⟨rfl, hx⟩
          have cl := rep_len er
          refine ⟨_, rfl, .inl ⟨rfl, _, .inl (.inl ek7)⟩, _, rfl, j, jo, os, m1, rfl, ja7, O, ⟨fun v m2 ev H8 v8 x8 ja8 rl8 => ?_, fun t ii et H' d ex hd => st.bad (rep_err (by omega : i' + 1 ≤ ds.length) (by rw [rep_succ er, bd_err et])) (x7.trans ex) hd⟩⟩
          obtain rfl : v8 = .int v := rl8
          have ek8 := x8 _ _ ek7 nkj
          refine ⟨pk, _, _, rfl, rfl, ek8, ?_, _, c ++ [v], m2, rfl, by rw [rep_succ er, bd_ok ev], (x7.trans x8).put npk, JAt.put ja5 ja8 npk, ?_⟩
          · rw [List.length_map, cl]
            exact small1000 (by omega)
          · rw [upd_same, List.map_append]
            rfl
        · rintro σ H7 ⟨y6, c, m1, rfl, er, x7, ja7, ek7⟩
          rw [hxl] at er
          exact ⟨_, c, m1, rfl, er, x7, ja7, ek7⟩
      rintro σ H7 ⟨y6', c, m1, rfl, erc, x7, ja7, ek7⟩
      have clen := rep_len erc
      have st2 := st.next erc x7
      have ha7 := x7 _ _ ha5 naj
      have htd7 := x7 _ _ htd5 ntd
      have ep7 := x7 _ _ ep5 npj
      have fl : ¬ (inBx ds c = true ∧ (∀ x ∈ l.getLast?, HT.lexLt x.c c = true)) → ∀ (H8 : Hp), Same H7 H8 → spFail [V.ref j, .str "Damaged", .int (m : Int)] H8 Q E := fun hbad H8 s8 =>
        ⟨j, "Damaged", _, _, _, _, rfl, (ja7.same s8).J, fun H' tp d ex f1 f2 => st2.no false m (if_neg hbad) H' d ((Same.ex s8).trans ex) ⟨tp, _, _, f1, f2⟩⟩
      refine ⟨fun σ H8 => ∃ y7 y8 y9 y10 y11, σ = [some (.ref j), some (.ref a), some (.ref pc), some (.int (0 + (i : Int))), some (.int (m : Int)), some (.ref pk), y6', y7, y8, y9, y10, y11, y12] ∧ H8 = H7 ∧ inBx ds c = true, ?_, ?_⟩
      · refine ⟨_, rfl, pk, _, rfl, .inl (.inl (.inl ek7)), (c.length : Int), by rw [List.length_map], by omega, by omega, for_range (lo := 0) (n := (c.length : Int).toNat) (fun i' σ H8 => ∃ y7 y8 y9 y10 y11, σ = [some (.ref j), some (.ref a), some (.ref pc), some (.int (0 + (i : Int))), some (.int (m : Int)), some (.ref pk), y6', y7, y8, y9, y10, y11, y12] ∧ H8 = H7 ∧ ∀ (z : Nat) (hc : z < c.length) (hd : z < ds.length), z < i' → c[z] ≤ mx ds[z]) ?_ ?_ ?_⟩
        · exact ⟨_, _, _, _, _, rfl, rfl, fun z _ _ h => absurd h (Nat.not_lt_zero _)⟩
        · rintro i' σ H8 hi' ⟨y7, y8, y9, y10, y11, rfl, e87, hall⟩
          subst e87
          have hi2 : i' < c.length := by omega
          have hi3 : i' < ds.length := by omega
          have hi4 : i' < xs.length := by omega
          obtain ⟨b, hb1, hb2⟩ : ∃ b, xs[i']? = some (.ref b) ∧ H8 b = some (.tup ds[i'].v) := by
            obtain ⟨x, e1, b, rfl, e2⟩ := had.2 i' _ (List.getElem?_eq_getElem hi3)
            exact ⟨b, e1, x7 _ _ (x5 _ _ e2 (ne_of e2 ja.J (by intro z; cases z))) (ne_of (x5 _ _ e2 (ne_of e2 ja.J (by intro z; cases z))) ja5.J (by intro z; cases z))⟩
          have gd := okd_of (okd _ (List.getElem_mem hi3))
          refine ⟨_, rfl, a, C, dx, _, .ref td, rfl, ha7, S.cl, n1, rfl, _, rfl, td, _, _, .ref b, rfl, rfl, SqT.of htd7, by rw [show (0 : Int) + (i' : Int) = (i' : Int) from by omega]; exact atI_nat hb1, b, _, rfl, SqT.of hb2, rfl, _, _, rfl, _, _, rfl, _, _, rfl, _, _, rfl, rfl, ?_⟩
          refine ⟨_, rfl, _, rfl, _, rfl, pk, _, _, .int c[i'], rfl, rfl, .inl (.inl ek7), by rw [show (0 : Int) + (i' : Int) = (i' : Int) from by omega]; exact atI_nat (by rw [List.getElem?_map, List.getElem?_eq_getElem hi2]; rfl), _, rfl, _, _, rfl, rfl, ?_, _, _, rfl, rfl, _, rfl, _, _, rfl, rfl, _, rfl, ?_⟩
          · exact .inr ⟨by have := gd.s0; omega, by have := gd.s1; omega⟩
          · by_cases hv : c[i'] ≤ mx ds[i']
            · refine iteBF (decide_eq_false fun z => (mx_iff gd.s0).mp z hv) ⟨_, _, _, _, _, rfl, rfl, fun z hc hd hz => ?_⟩
              rcases Nat.lt_succ_iff_lt_or_eq.mp hz with h | h
              · exact hall z hc hd h
              · subst h
                exact hv
            · refine iteB (decide_eq_true ((mx_iff gd.s0).mpr hv)) ⟨_, rfl, _, rfl, fl (fun z => ?_) H8 (Same.refl _)⟩
              rw [inBx_at hi2 hi3 hv] at z
              cases z.1
        · rintro σ H8 ⟨y7, y8, y9, y10, y11, rfl, rfl, hall⟩
          exact ⟨_, _, _, _, _, rfl, rfl, inBx_all clen fun z hc hd => hall z hc hd (by omega)⟩
      rintro σ H8 ⟨y7', y8', y9', y10', y11', rfl, e87, hbx⟩
      subst e87
      refine ⟨fun σ H9 => σ = [some (.ref j), some (.ref a), some (.ref pc), some (.int (0 + (i : Int))), some (.int (m : Int)), some (.ref pk), y6', y7', y8', y9', y10', y11', y12] ∧ Same H8 H9 ∧ ∀ x ∈ l.getLast?, HT.lexLt x.c c = true, ?_, ?_⟩
      · refine ⟨_, rfl, pc, _, rfl, .inl (.inl (.inl ep7)), _, _, rfl, rfl, _, rfl, ?_⟩
        cases e : l.getLast? with
        | none =>
          have : l = [] := List.getLast?_eq_none_iff.mp e
          have w0 : ws.length = 0 := by rw [al.1, this]; rfl
          exact iteBF (decide_eq_false (by omega)) (iteF ⟨rfl, Same.refl _, fun x hx => by cases hx⟩)
        | some x =>
          obtain ⟨y, hy, cy⟩ := al.2 _ _ (last_at e)
          have wl : 0 < ws.length := by
            have := (List.getElem?_eq_some_iff.mp hy).1
            omega
          have x58 : Ex H5 H8 j := x7
          obtain ⟨b', u', rfl, f1, f2⟩ := cy
          have g1 := x7 _ _ f1 (ne_of f1 ja5.J (by intro z; cases z))
          have g2 := x7 _ _ f2 (ne_of f2 ja5.J (by intro z; cases z))
          refine iteB (decide_eq_true (by omega)) ?_
          refine ⟨_, rfl, _, rfl, pc, _, rfl, .inl (.inl (.inl ep7)), _, _, rfl, rfl, pc, ws, _, .ref b', rfl, rfl, .inl (.inl ep7), by rw [show (ws.length : Int) - 1 = ((ws.length - 1 : Nat) : Int) from by omega]; exact atI_nat (by rw [al.1]; exact hy), b', _, 0, .ref u', rfl, rfl, SqT.of g1, rfl, _, rfl, pk, _, rfl, .inl ⟨.inl (.inl ek7), fun t nt => ?_⟩⟩
          have st8 := same_new (o := .tup (c.map V.int)) nt
          refine ⟨u', t, x.c, c, rfl, rfl, SqT.of (st8 _ _ g2), SqT.of upd_same, _, rfl, ?_⟩
          cases hlt : HT.lexLt x.c c with
          | true => exact iteF ⟨rfl, st8, fun z hz => by cases hz; exact hlt⟩
          | false =>
            refine iteT ⟨_, rfl, _, rfl, fl (fun z => ?_) _ st8⟩
            have := z.2 x e
            rw [hlt] at this
            cases this
      rintro σ H9 ⟨rfl, s89, hup⟩
      rw [if_pos ⟨hbx, hup⟩] at st2
      have ja9 := ja7.same s89
      have st3 := st2.mv (Same.ex s89)
      refine ⟨_, rfl, j, jo, os, m1, rfl, ja9, O, ⟨fun o m2 eo H10 v10 x10 ja10 rl10 => ?_, fun t ii et H' d ex hd => st3.bad et ex hd⟩⟩
      obtain rfl : v10 = .int o := rl10
      have st4 := st3.next eo x10
      have ep10 := x10 _ _ (s89 _ _ ep7) npj
      have ek10 := x10 _ _ (s89 _ _ ek7) nkj
      refine ⟨_, rfl, .inl ⟨rfl, _, .inl (.inl ep10)⟩, _, rfl, pk, _, rfl, .inl ⟨.inl (.inl ek10), fun t nt => ?_⟩⟩
      have s11 := same_new (o := .tup (c.map V.int)) nt
      have ja11 := ja10.same s11
      have ntj : t ≠ j := jt_ne ja10 nt
      refine ⟨_, rfl, _, rfl, j, jo, os, m2, rfl, ja11, O, ⟨fun len m3 el H12 v12 x12 ja12 rl12 => ⟨(by show 3 ≤ sizeLine; decide), fun t2 nt2 => ?_⟩, fun t' ii et H' d ex hd => st4.bad et ((Same.ex s11).trans ex) hd⟩⟩
      obtain rfl : v12 = .int len := rl12
      have s13 := same_new (o := .tup [.ref t, .int o, .int len]) nt2
      have xx : Ex H5 H12 j := ((x7.same s89).trans x10).same s11 |>.trans x12
      have ep13 := s13 _ _ (x12 _ _ (s11 _ _ ep10) npj)
      have et13 := s13 _ _ (x12 _ _ (upd_same (a := t)) ntj)
      have epk : pck ds os l m = .ok (⟨c, o, len⟩, m3) := by
        unfold pck
        rw [bd_ok erc, if_pos ⟨hbx, hup⟩, bd_ok eo, bd_ok el]
      have kp : Kp H5 (upd (upd H12 t2 (.tup [.ref t, .int o, .int len])) pc (.lst (ws ++ [.ref t2]))) := kp_put ((xx.same s13).kpJ ja5) ep13
      have kp0 : Kp (upd H12 t2 (.tup [.ref t, .int o, .int len])) (upd (upd H12 t2 (.tup [.ref t, .int o, .int len])) pc (.lst (ws ++ [.ref t2]))) := kp_put (fun b xs e => e) ep13
      refine ⟨pc, ws, .ref t2, rfl, rfl, ep13, big (by omega), _, _, _, _, _, _, _, _, _, _, ws ++ [.ref t2], l ++ [⟨c, o, len⟩], m3, rfl, by rw [rep_succ er5, bd_ok epk], ((x5.trans xx).same s13).put npc, JAt.put ja (ja12.same s13) npc, upd_same, ?_⟩
      exact All.push (al.imp fun y c ⟨p1, p2, e1, e2, e3⟩ => ⟨p1, p2, e1, kp _ _ e2, kp _ _ e3⟩) ⟨t2, t, rfl, kp0 _ _ upd_same, kp0 _ _ et13⟩
    · rintro σ H5 ⟨y3, y4, y5, y6, y7, y8, y9, y10, y11, y12, ws, l, m, rfl, er5, x5, ja5, ep5, al⟩
      refine ⟨_, rfl, pc, ws, rfl, .inl ⟨.inl (.inl ep5), fun t nt => ?_⟩⟩
      have s6 := same_new (o := .tup ws) nt
      exact q0.ok _ _ (by rw [bd_ok ek]; exact er5) _ _ (x5.same s6) (ja5.same s6) ⟨t, ws, rfl, upd_same, al.imp fun y c h => h.same s6⟩
end
end K2

namespace K2
open PySem L2
theorem depth_ints : ∀ os : List Int, PyData.depthAll (os.map PyData.int) ≤ 1
  | [] => by simp [PyData.depthAll]
  | n :: r => by
    have := depth_ints r
    simp [PyData.depthAll, PyData.depth] at this ⊢
    omega
theorem lay_ints : ∀ os : List Int, PyData.canLayAll0 (os.map PyData.int) = true
  | [] => by simp [PyData.canLayAll0]
  | n :: r => by
    have := lay_ints r
    simp [PyData.canLayAll0, PyData.canLay0] at this ⊢
    exact this
theorem shp_of {ds : List PyData} (h1 : PyData.depthAll ds ≤ 1) (h : PyData.canLayAll0 ds = true) : SeqAt.shaped (.list ds) = true := by
  have h2 : PyData.depth (.list ds) ≤ 64 := by
    simp only [PyData.depth]
    omega
  show (PyData.canLay0 (.list ds) && decide (PyData.depth (.list ds) ≤ 64)) = true
  rw [Bool.and_eq_true]
  exact ⟨by simp only [PyData.canLay0]; exact h, decide_eq_true h2⟩
theorem eqv_of {ds : List PyData} (h : PyData.canLayAll0 ds = true) : PyData.eqv (.list ds) (.list ds) = true := SeqAt.eqv_refl _ (by simp only [PyData.canLay0]; exact h)
theorem dp_ints {K : PySem.W.Frag} {H : Hp} : ∀ os : List Int, DpAll K H (os.map V.int) (os.map PyData.int)
  | [] => .nil
  | n :: r => .cons (.int n) (dp_ints r)
theorem ne_ints {K : PySem.W.Frag} {H : Hp} {a b : Addr} {os : List Int} {Q : VK} (ha : H a = some (.lst (os.map V.int))) (hb : H b = some (.lst (os.map V.int))) (q : Q (.bl false) H) : rNeD K (.ref a) (.ref b) H Q := by
  refine ⟨.list (os.map PyData.int), .list (os.map PyData.int), .lst (.inl (.inl ha)) (dp_ints os), .lst (.inl (.inl hb)) (dp_ints os), shp_of (depth_ints os) (lay_ints os), shp_of (depth_ints os) (lay_ints os), ?_⟩
  rw [eqv_of (lay_ints os)]
  exact q
end K2

namespace K2
open PySem L2
theorem eqvAll_ints : ∀ (xs ys : List Int), PyData.eqvAll (xs.map PyData.int) (ys.map PyData.int) = decide (xs = ys)
  | [], [] => by simp [PyData.eqvAll]
  | x :: xs, [] => by simp [PyData.eqvAll]
  | [], y :: ys => by simp [PyData.eqvAll]
  | x :: xs, y :: ys => by
    simp only [List.map_cons, PyData.eqvAll, eqvAll_ints xs ys, PyData.eqv]
    by_cases h : x = y
    · subst h
      simp
    · simp [h]
/-- != of two lists of ints -/
theorem ne_ints2 {K : PySem.W.Frag} {H : Hp} {a b : Addr} {os ps : List Int} {Q : VK} (ha : H a = some (.lst (os.map V.int))) (hb : H b = some (.lst (ps.map V.int))) (q : Q (.bl (!decide (os = ps))) H) : rNeD K (.ref a) (.ref b) H Q := by
  refine ⟨.list (os.map PyData.int), .list (ps.map PyData.int), .lst (.inl (.inl ha)) (dp_ints os), .lst (.inl (.inl hb)) (dp_ints ps), shp_of (depth_ints os) (lay_ints os), shp_of (depth_ints ps) (lay_ints ps), ?_⟩
  have : PyData.eqv (.list (os.map PyData.int)) (.list (ps.map PyData.int)) = decide (os = ps) := by
    simp only [PyData.eqv]
    exact eqvAll_ints os ps
  rw [this]
  exact q
theorem ShAt.exJ {C : Addr} {H H1 : Hp} {j jo : Addr} {os : List Int} {n : Nat} {x : V} {ds : List D} {ts : List T} (h : ShAt H C x ds ts) (e : Ex H H1 j) (ja : JAt H j jo os n) : ShAt H1 C x ds ts := by
  obtain ⟨a, dx, u, v, e1, e2, ⟨td, xs, f1, f2, f3⟩, ⟨ta, ys, g1, g2, g3⟩⟩ := h
  have k := e.kpJ ja
  exact ⟨a, dx, u, v, e1, e _ _ e2 (ne_of e2 ja.J (by intro z; cases z)), ⟨td, xs, f1, k _ _ f2, f3.imp fun _ _ z => RowAt.kp z k⟩, ⟨ta, ys, g1, k _ _ g2, g3.imp fun _ _ z => RowAt.kp z k⟩⟩
theorem CkAt.exJ {H H1 : Hp} {j jo : Addr} {os : List Int} {n : Nat} {x : V} {c : Ck} (h : CkAt H x c) (e : Ex H H1 j) (ja : JAt H j jo os n) : CkAt H1 x c := by
  obtain ⟨a, b, e1, e2, e3⟩ := h
  exact ⟨a, b, e1, e.kpJ ja _ _ e2, e.kpJ ja _ _ e3⟩
theorem ArAt.exJ {C : Addr} {H H1 : Hp} {j jo : Addr} {os : List Int} {n : Nat} {x : V} {c : Ar} (h : ArAt H C x c) (e : Ex H H1 j) (ja : JAt H j jo os n) : ArAt H1 C x c := by
  obtain ⟨a, u, v, e1, e2, e3, ⟨b, xs, f1, f2, f3⟩⟩ := h
  exact ⟨a, u, v, e1, e.kpJ ja _ _ e2, e3.exJ e ja, b, xs, f1, e.kpJ ja _ _ f2, f3.imp fun _ _ z => z.exJ e ja⟩
theorem VeAt.exJ {C : Addr} {H H1 : Hp} {j jo : Addr} {os : List Int} {n : Nat} {x : V} {c : Ve} (h : VeAt H C x c) (e : Ex H H1 j) (ja : JAt H j jo os n) : VeAt H1 C x c := by
  obtain ⟨a, v, e1, e2, ⟨b, xs, f1, f2, f3⟩⟩ := h
  exact ⟨a, v, e1, e.kpJ ja _ _ e2, b, xs, f1, e.kpJ ja _ _ f2, f3.imp fun _ _ z => z.exJ e ja⟩
theorem pver_no {up : Int} {os : List Int} (O : Os os) {l : List Ve} {n m : Nat} {a : Ve} (h : pver up os l n = .ok (a, m)) : 0 ≤ a.no := by
  obtain ⟨v, _, e, h⟩ := bd_inv h
  obtain ⟨_, _, e1, h⟩ := bd_inv h
  injection h with h
  injection h with h3 h4
  rw [← h3]
  obtain ⟨v', _, e2, h'⟩ := bd_inv e
  split at h'
  · injection h' with h'
    injection h' with h5 h6
    rw [← h5]
    exact (p4_ok e2 O).1.1
  · cases h'
section
variable {P : Program} {w : World} {K : PySem.W.Frag} {mg : Str → Option Value} {base : Heap}
def spLR (CR C : Addr) : Sp := fun vs H Q E => ∃ (j jo : Addr) (os : List Int), vs = [.ref j] ∧ JAt H j jo os 0 ∧ Os os ∧ Jst H j jo os (proot os) (RRt CR C) Q E
theorem scLR : FnScope ["job", "k", "upcoming", "data", "versions", "place", "number", "arrays", "j", "name", "shape"] ["job"] (defScope sLRead) := ⟨rfl, rfl, rfl, by decide +kernel, rfl, by decide +kernel, by decide +kernel⟩
theorem ok_lr {f fS fC fU fR CR C : Addr} {fd fdS fdC fdU fdR : FuncData} (F : Fun K "_law_read" "_law_read" sLRead f fd) (M : Nm mg) (L : LF P w K mg base)
    (GS : FnOk P w K mg base (L2.CX P w) 4 fS fdS ["job"] (spJ (RSp C) pshape)) (kS : PySem.W.keepIn K (.ref fS) = true) (bS : Binds K fdS ["job"] []) (gS : mg "_law_read_shape" = some (.ref fS))
    (GC : FnOk P w K mg base (L2.CX P w) 4 fC fdC ["job", "shape"] (spLRC C)) (kC : PySem.W.keepIn K (.ref fC) = true) (bC : Binds K fdC ["job", "shape"] []) (gC : mg "_law_read_chunks" = some (.ref fC))
    (GX : FnOk P w K mg base CX0 1 fU fdU ["octets"] (spSum K)) (kX : PySem.W.keepIn K (.ref fU) = true) (bX : Binds K fdU ["octets"] []) (gX : mg "sum_of" = some (.ref fU))
    (R : KC K CR fR RHf) (GR : FnOk P w K mg base CX0 1 fR fdR ["self", "upcoming", "data", "versions"] (RIn CR C)) (bR : Binds K fdR ["self", "upcoming", "data", "versions"] []) (gR : mg "Root" = some (.ref CR)) : FnOk P w K mg base (L2.CX P w) 5 f fd ["job"] (spLR CR C) := by
  have GF := L.GF
  have GT := L.GT
  have GU := L.GU
  have GN := L.GN
  refine F.okX scLR (fun vs H Q E h => ?_) (fun cdv A outer s H vs Q E hr h => ?_)
  · obtain ⟨j, jo, os, rfl, _⟩ := h
    rfl
  · obtain ⟨j, jo, os, rfl, ja, O, q⟩ := h
    have hr1 := hr.mono (j := 1) (by decide)
    have hr2 := hr.mono (j := 2) (by decide)
    have hr3 := hr.mono (j := 3) (by decide)
    refine ⟨_, (Evl.pss_cut (ps_for (passes_of rfl) rfl (pi_range1 (by rfl) M.range (pa_cons pe_int pa_nil)) (pg_name (i := 1) scLR.nd rfl (.inl rfl)) (pss_one (ps_if (pt_cmpR (op_neD hr.units) (pe_callS GT hr2 (by rfl) L.gT L.kT L.bT (fun σ => passAt (takes_of rfl rfl rfl rfl) σ) (pa_cons (pv 0) (pa_cons pe_int pa_nil))) (pe_ix ix_list (pe_lst (pa_cons (pe_lst (pa_cons pe_int pa_nil)) (pa_cons (pe_lst (pa_cons pe_int pa_nil)) pa_nil))) (pv 1) (fun _ _ => rfl)) (nomark _)) (pss_one (ps_expr (pe_callS GF hr1 (by rfl) L.gF L.kF L.bF (fun σ => passAt (takes_of rfl rfl rfl rfl) σ) (pa_cons (pv 0) (pa_cons pe_str (pa_cons (pv 1) pa_nil)))))) pss_nil)))
      (pss_cons (ps_set (i := 2) scLR.nd rfl (.inl rfl) (pe_callS GU hr3 (by rfl) L.gU L.kU L.bU (fun σ => passAt (takes_of rfl rfl rfl rfl) σ) (pa_cons (pv 0) pa_nil)))
      (pss_cons (ps_if (pt_cmpR op_eq (pv 2) pe_int (nomark _)) (pss_one (ps_expr (pe_callS GF hr1 (by rfl) L.gF L.kF L.bF (fun σ => passAt (takes_of rfl rfl rfl rfl) σ) (pa_cons (pv 0) (pa_cons pe_str (pa_cons pe_int pa_nil)))))) pss_nil)
      (pss_cons (ps_set (i := 3) scLR.nd rfl (.inl rfl) (pe_callS GU hr3 (by rfl) L.gU L.kU L.bU (fun σ => passAt (takes_of rfl rfl rfl rfl) σ) (pa_cons (pv 0) pa_nil)))
      (pss_cons (ps_set (i := 4) scLR.nd rfl (.inl rfl) (pe_lst pa_nil))
      (Evl.pss_cut (ps_for (passes_of rfl) rfl (pi_range1 (by rfl) M.range (pa_cons (pe_callS GU hr3 (by rfl) L.gU L.kU L.bU (fun σ => passAt (takes_of rfl rfl rfl rfl) σ) (pa_cons (pv 0) pa_nil)) pa_nil)) (pg_name (i := 1) scLR.nd rfl (.inl rfl)) (pss_cons (ps_set (i := 5) scLR.nd rfl (.inl rfl) (pe_ix ix_list (pv 0) pe_int (fun _ _ => rfl)))
      (pss_cons (ps_set (i := 6) scLR.nd rfl (.inl rfl) (pe_callS GU hr3 (by rfl) L.gU L.kU L.bU (fun σ => passAt (takes_of rfl rfl rfl rfl) σ) (pa_cons (pv 0) pa_nil)))
      (Evl.pss_cut (ps_if (PW.pt (pw_or (pt_cmpR op_eq (pv 6) pe_int (nomark _)) (pw_or (pt_cmpR op_ge (pv 6) (pv 2) (nomark _)) (pw_or1 (PW.pt (pw_and (pt_cmpR op_gt (pe_callB call_len_seq (by rfl) M.len PySem.boot_len (pa_cons (pv 4) pa_nil)) pe_int (nomark _)) (pw_and1 (pt_cmpR op_le (pv 6) (pe_ix ix_tup (pe_ix ix_list (pv 4) (pe_op op_sub (pe_callB call_len_seq (by rfl) M.len PySem.boot_len (pa_cons (pv 4) pa_nil)) pe_int) (fun _ _ => rfl)) pe_int (fun _ _ => rfl)) (nomark _))))))))) (pss_one (ps_expr (pe_callS GF hr1 (by rfl) L.gF L.kF L.bF (fun σ => passAt (takes_of rfl rfl rfl rfl) σ) (pa_cons (pv 0) (pa_cons pe_str (pa_cons (pv 5) pa_nil)))))) pss_nil)
      (pss_cons (ps_set (i := 7) scLR.nd rfl (.inl rfl) (pe_lst pa_nil))
      (Evl.pss_cut (ps_for (passes_of rfl) rfl (pi_range1 (by rfl) M.range (pa_cons (pe_callS GU hr3 (by rfl) L.gU L.kU L.bU (fun σ => passAt (takes_of rfl rfl rfl rfl) σ) (pa_cons (pv 0) pa_nil)) pa_nil)) (pg_name (i := 8) scLR.nd rfl (.inl rfl)) (pss_cons (ps_set (i := 5) scLR.nd rfl (.inl rfl) (pe_ix ix_list (pv 0) pe_int (fun _ _ => rfl)))
      (pss_cons (ps_set (i := 9) scLR.nd rfl (.inl rfl) (pe_callS GN hr3 (by rfl) L.gN L.kN L.bN (fun σ => passAt (takes_of rfl rfl rfl rfl) σ) (pa_cons (pv 0) pa_nil)))
      (Evl.pss_cut (ps_if (PW.pt (pw_and (pt_cmpR op_gt (pe_callB call_len_seq (by rfl) M.len PySem.boot_len (pa_cons (pv 7) pa_nil)) pe_int (nomark _)) (pw_and1 (pt_cmpR op_le_str (pv 9) (pe_ix ix_tup (pe_ix ix_list (pv 7) (pe_op op_sub (pe_callB call_len_seq (by rfl) M.len PySem.boot_len (pa_cons (pv 7) pa_nil)) pe_int) (fun _ _ => rfl)) pe_int (fun _ _ => rfl)) (nomark _))))) (pss_one (ps_expr (pe_callS GF hr1 (by rfl) L.gF L.kF L.bF (fun σ => passAt (takes_of rfl rfl rfl rfl) σ) (pa_cons (pv 0) (pa_cons pe_str (pa_cons (pv 5) pa_nil)))))) pss_nil)
      (pss_cons (ps_set (i := 10) scLR.nd rfl (.inl rfl) (pe_callS GS hr (by rfl) gS kS bS (fun σ => passAt (takes_of rfl rfl rfl rfl) σ) (pa_cons (pv 0) pa_nil)))
      (pss_one (ps_expr (pe_bm PySem.F.plainAttrs_list PySem.F.slot_list_append PySem.F.type_list_append mt_append (pv 7) (pa_cons (pe_tup (pa_cons (pv 9) (pa_cons (pv 10) (pa_cons (pe_callS GC hr (by rfl) gC kC bC (fun σ => passAt (takes_of rfl rfl rfl rfl) σ) (pa_cons (pv 0) (pa_cons (pv 10) pa_nil))) pa_nil)))) pa_nil)))))))))
      (pss_one (ps_expr (pe_bm PySem.F.plainAttrs_list PySem.F.slot_list_append PySem.F.type_list_append mt_append (pv 4) (pa_cons (pe_tup (pa_cons (pv 6) (pa_cons (pe_callTy call_tuple_of (by rfl) M.tuple (by decide +kernel) (pa_cons (pv 7) pa_nil)) pa_nil))) pa_nil))))))))))
      (pss_cons (ps_set (i := 5) scLR.nd rfl (.inl rfl) (pe_ix ix_list (pv 0) pe_int (fun _ _ => rfl)))
      (pss_cons (ps_if (pt_cmpR op_ne (pe_callS GU hr3 (by rfl) L.gU L.kU L.bU (fun σ => passAt (takes_of rfl rfl rfl rfl) σ) (pa_cons (pv 0) pa_nil)) (pe_call GX hr1 (by rfl) gX kX bX .nil pass0 (pa_cons (pe_slice sl_list (pe_ix ix_list (pv 0) pe_int (fun _ _ => rfl)) po_none (po_some (pv 5))) pa_nil)) (nomark _)) (pss_one (ps_expr (pe_callS GF hr1 (by rfl) L.gF L.kF L.bF (fun σ => passAt (takes_of rfl rfl rfl rfl) σ) (pa_cons (pv 0) (pa_cons pe_str (pa_cons (pv 5) pa_nil)))))) pss_nil)
      (pss_cons (ps_if (pt_cmpR op_lt (pe_ix ix_list (pv 0) pe_int (fun _ _ => rfl)) (pe_callB call_len_seq (by rfl) M.len PySem.boot_len (pa_cons (pe_ix ix_list (pv 0) pe_int (fun _ _ => rfl)) pa_nil)) (nomark _)) (pss_one (ps_expr (pe_callS GF hr1 (by rfl) L.gF L.kF L.bF (fun σ => passAt (takes_of rfl rfl rfl rfl) σ) (pa_cons (pv 0) (pa_cons pe_str (pa_cons (pe_ix ix_list (pv 0) pe_int (fun _ _ => rfl)) pa_nil)))))) pss_nil)
      (pss_one (ps_ret (pe_make R.mkC GR hr2 (by rfl) gR bR .nil pass0 (pa_cons (pv 2) (pa_cons (pv 3) (pa_cons (pe_callTy call_tuple_of (by rfl) M.tuple (by decide +kernel) (pa_cons (pv 4) pa_nil)) pa_nil))))))))))))))), ?_⟩
    have idx : Ex H H j := fun _ _ e _ => e
    have q0 : Jst H j jo os (bd (pof [77] os 0) fun _ m => bd (pof [83] os m) fun _ m => bd (p4i 1 4294967295 os m) fun up m => bd (p4 os m) fun da m => bd (p4 os m) fun k m =>
        bd (rep (pver up os) k.toNat m) fun vs m => bd (p4i (sumO (os.take m)) (sumO (os.take m)) os m) fun _ j => if j = os.length then .ok ((up, da, vs), j) else .error (false, j)) (RRt CR C) Q E := q
    refine ⟨fun σ H2 => ∃ y1 a b m1, σ = [some (.ref j), y1, none, none, none, none, none, none, none, none, none] ∧ pof [77] os 0 = .ok (a, m1) ∧ pof [83] os m1 = .ok (b, 2) ∧ Ex H H2 j ∧ JAt H2 j jo os 2, ?_, ?_⟩
    · refine ⟨2, rfl, by decide, by decide, for_range (lo := 0) (n := (2 : Int).toNat) (fun i σ H2 => ∃ y1, σ = [some (.ref j), y1, none, none, none, none, none, none, none, none, none] ∧ At2 os i i ∧ Ex H H2 j ∧ JAt H2 j jo os i) ?_ ?_ ?_⟩
      · exact ⟨none, rfl, rfl, idx, ja⟩
      · rintro i σ H2 hi ⟨y1, rfl, am, x2, ja2⟩
        match i, hi, am, ja2 with
        | 0, _, am, ja2 =>
          refine ⟨_, rfl, j, jo, os, 0, 1, rfl, ja2, ⟨fun zs m2 et H3 v x3 ja3 rl => ?_, fun t ii et H' d ex hd => q0.bad (by unfold pof; exact bd_err (p1_bad et)) (x2.trans ex) hd⟩⟩
          obtain ⟨p, rfl, ep⟩ := rl
          obtain ⟨zl, zm⟩ := tk_len et
          obtain ⟨_, _, em⟩ := tk_ok et
          obtain rfl : m2 = 1 := em
          match zs, zl with
          | [o], _ =>
            refine ⟨(by show 1 ≤ sizeLine; decide), fun l1 n1 => ⟨(by show 1 ≤ sizeLine; decide), fun l2 n2 => ⟨(by show 2 ≤ sizeLine; decide), fun l3 n3 => ?_⟩⟩⟩
            have s4 := same_new (o := .lst [.int 77]) n1
            have s5 := same_new (o := .lst [.int 83]) n2
            have s6 := same_new (o := .lst [V.ref l1, .ref l2]) n3
            have s46 := (s4.trans s5).trans s6
            refine ⟨_, rfl, l3, _, 0, .ref l1, rfl, rfl, .inl (.inl upd_same), rfl, ne_ints2 (os := [o]) (ps := [77]) (s46 _ _ ep) (s6 _ _ (s5 _ _ upd_same)) ⟨_, rfl, ?_⟩⟩
            have ja6 := ja3.same s46
            by_cases ho : o = 77
            · subst ho
              refine iteBF (by decide) ⟨_, rfl, ⟨77, ?_⟩, (x2.trans x3).same s46, ja6⟩
              unfold pof
              rw [bd_ok (p1_tk et)]
              rfl
            · refine iteB (by rw [decide_eq_false (fun z => ho (List.head_eq_of_cons_eq z))]; rfl) ⟨_, rfl, _, rfl, j, "Damaged", _, _, _, _, rfl, ja6.J, fun H' tp d ex f1 f2 => q0.bad (t := false) (i := 0) ?_ (((x2.trans x3).same s46).trans ex) ⟨tp, _, _, f1, f2⟩⟩
              unfold pof
              rw [bd_ok (p1_tk et), if_neg (fun z => ho (List.mem_singleton.mp z))]
        | 1, _, am, ja2 =>
          obtain ⟨a, ea⟩ := am
          refine ⟨_, rfl, j, jo, os, 1, 1, rfl, ja2, ⟨fun zs m2 et H3 v x3 ja3 rl => ?_, fun t ii et H' d ex hd => (q0.next ea idx).bad (by unfold pof; exact bd_err (p1_bad et)) (x2.trans ex) hd⟩⟩
          obtain ⟨p, rfl, ep⟩ := rl
          obtain ⟨zl, zm⟩ := tk_len et
          obtain ⟨_, _, em⟩ := tk_ok et
          obtain rfl : m2 = 2 := em
          match zs, zl with
          | [o], _ =>
            refine ⟨(by show 1 ≤ sizeLine; decide), fun l1 n1 => ⟨(by show 1 ≤ sizeLine; decide), fun l2 n2 => ⟨(by show 2 ≤ sizeLine; decide), fun l3 n3 => ?_⟩⟩⟩
            have s4 := same_new (o := .lst [.int 77]) n1
            have s5 := same_new (o := .lst [.int 83]) n2
            have s6 := same_new (o := .lst [V.ref l1, .ref l2]) n3
            have s46 := (s4.trans s5).trans s6
            refine ⟨_, rfl, l3, _, 1, .ref l2, rfl, rfl, .inl (.inl upd_same), rfl, ne_ints2 (os := [o]) (ps := [83]) (s46 _ _ ep) (s6 _ _ upd_same) ⟨_, rfl, ?_⟩⟩
            have ja6 := ja3.same s46
            by_cases ho : o = 83
            · subst ho
              refine iteBF (by decide) ⟨_, rfl, ⟨a, 1, 83, ea, ?_⟩, (x2.trans x3).same s46, ja6⟩
              unfold pof
              rw [bd_ok (p1_tk et)]
              rfl
            · refine iteB (by rw [decide_eq_false (fun z => ho (List.head_eq_of_cons_eq z))]; rfl) ⟨_, rfl, _, rfl, j, "Damaged", _, _, _, _, rfl, ja6.J, fun H' tp d ex f1 f2 => (q0.next ea idx).bad (t := false) (i := 1) ?_ (((x2.trans x3).same s46).trans ex) ⟨tp, _, _, f1, f2⟩⟩
              unfold pof
              rw [bd_ok (p1_tk et), if_neg (fun z => ho (List.mem_singleton.mp z))]
        | i + 2, hi, _, _ => exact absurd hi (by show ¬ (i + 2 < 2); omega)
      · rintro σ H2 ⟨y1, rfl, ⟨a, m1, b, ea, eb⟩, x2, ja2⟩
        exact ⟨_, a, b, m1, rfl, ea, eb, x2, ja2⟩
    rintro σ H2 ⟨y1, a, b, m1, rfl, ea, eb, x2, ja2⟩
    have q2 := (q0.next ea idx).next eb x2
    refine ⟨_, rfl, j, jo, os, 2, rfl, ja2, O, ⟨fun up m3 eu H3 v3 x3 ja3 rl3 => ?_, fun t i et H' d ex hd => q2.bad (by unfold p4i; exact bd_err et) ex hd⟩⟩
    obtain rfl : v3 = .int up := rl3
    have ub := (p4_ok eu O).1
    refine ⟨_, rfl, rfl, _, rfl, ?_⟩
    rw [int_eq]
    by_cases hu : up = 0
    · refine iteB (decide_eq_true hu) ⟨_, rfl, j, "Damaged", 2, _, _, _, rfl, ja3.J, fun H' tp d ex f1 f2 => q2.bad (t := false) (i := 2) ?_ (x3.trans ex) ⟨tp, _, _, f1, f2⟩⟩
      unfold p4i
      rw [bd_ok eu, if_neg (by omega)]
    refine iteBF (decide_eq_false hu) ?_
    have eui : p4i 1 4294967295 os 2 = .ok (up, m3) := by
      unfold p4i
      rw [bd_ok eu, if_pos ⟨by omega, by omega⟩]
    have q3 := q2.next eui x3
    refine ⟨_, rfl, j, jo, os, m3, rfl, ja3, O, ⟨fun da m4 ed H4 v4 x4 ja4 rl4 => ?_, fun t i et H' d ex hd => q3.bad et ex hd⟩⟩
    obtain rfl : v4 = .int da := rl4
    have q4 := q3.next ed x4
    refine ⟨Nat.zero_le _, fun pc npc => ?_⟩
    have s5 := same_new (o := .lst []) npc
    have ja5 := ja4.same s5
    have npj : pc ≠ j := jt_ne ja4 npc
    have idx4 : Ex H4 H4 j := fun _ _ e _ => e
    refine ⟨fun σ H7 => ∃ y1 y5 y6 y7 y8 y9 y10 ws l k m0 m, σ = [some (.ref j), y1, some (.int up), some (.int da), some (.ref pc), y5, y6, y7, y8, y9, y10] ∧ p4 os m4 = .ok (k, m0) ∧ rep (pver up os) k.toNat m0 = .ok (l, m) ∧ Ex H4 H7 j ∧ JAt H7 j jo os m ∧ H7 pc = some (.lst ws) ∧ All (VeAt H7 C) ws l, ?_, ?_⟩
    · refine ⟨_, rfl, j, jo, os, m4, rfl, ja5, O, ⟨fun k m0 ek H6 v6 x6 ja6 rl6 => ?_, fun t i et H' d ex hd => q4.bad et ((Same.ex s5).trans ex) hd⟩⟩
      obtain rfl : v6 = .int k := rl6
      have kb := (p4_ok ek O).1
      have q6 := q4.next ek idx4
      refine ⟨k, rfl, by omega, by omega, for_range (lo := 0) (n := k.toNat) (fun i σ H7 => ∃ y1 y5 y6 y7 y8 y9 y10 ws l m, σ = [some (.ref j), y1, some (.int up), some (.int da), some (.ref pc), y5, y6, y7, y8, y9, y10] ∧ rep (pver up os) i m0 = .ok (l, m) ∧ Ex H4 H7 j ∧ JAt H7 j jo os m ∧ H7 pc = some (.lst ws) ∧ All (VeAt H7 C) ws l) ?_ ?_ ?_⟩
      · exact ⟨_, _, _, _, _, _, _, [], [], m0, rfl, rfl, (Same.ex s5).trans x6, ja6, x6 _ _ upd_same npj, All.nil⟩
      · rintro i σ H7 hi ⟨y1, y5, y6, y7, y8, y9, y10, ws, l, m, rfl, er7, x7, ja7, epc7, al⟩
        have xl := al.1
        rw [rep_len er7] at xl
        have hm := ja7.le
        have hol := O.l
        have hil := rep_lt (fun _ _ _ _ z => pver_lt z) er7
        have hnn := rep_all (Pr := fun a => 0 ≤ a.no) (fun _ _ _ _ z => pver_no O z) er7
        have hl0 : 0 ≤ lastNo l := by
          unfold lastNo
          cases e : l.getLast? with
          | none => exact Int.le_refl _
          | some x => exact hnn x (List.mem_of_getLast? e)
        have st : Jst H7 j jo os (bd (p4i (lastNo l + 1) (up - 1) os m) fun v j => bd (parrs os j) fun as j => .ok (⟨v, as⟩, j)) (fun _ _ (_ : Ve) => True) (fun _ _ => True) E :=
          ⟨fun _ _ _ _ _ _ _ _ => trivial, fun t ii e H' d x2 hd => q6.bad (rep_err (Nat.succ_le_of_lt hi) (by rw [rep_succ er7]; exact bd_err e)) (x7.trans x2) hd⟩
        refine ⟨_, rfl, j, _, 1, .int (m : Int), rfl, rfl, .inl (.inl ja7.J), rfl, ?_⟩
        refine ⟨_, rfl, j, jo, os, m, rfl, ja7, O, ⟨fun no j2 eno H8 v8 x8 ja8 rl8 => ?_, fun t i et H' d ex hd => st.bad (by unfold p4i; exact bd_err et) ex hd⟩⟩
        obtain rfl : v8 = .int no := rl8
        have nb := (p4_ok eno O).1
        have epc8 := x8 _ _ epc7 npj
        have fl : ¬ (lastNo l + 1 ≤ no ∧ no ≤ up - 1) → spFail [V.ref j, .str "Damaged", .int (m : Int)] H8 Q E := fun hbad =>
          ⟨j, "Damaged", _, _, _, _, rfl, ja8.J, fun H' tp d ex f1 f2 => st.bad (t := false) (i := m) (by unfold p4i; rw [bd_ok eno, if_neg hbad]) (x8.trans ex) ⟨tp, _, _, f1, f2⟩⟩
        refine ⟨fun σ H9 => σ = [some (.ref j), some (.int (0 + (i : Int))), some (.int up), some (.int da), some (.ref pc), some (.int (m : Int)), some (.int no), y7, y8, y9, y10] ∧ H9 = H8 ∧ lastNo l + 1 ≤ no ∧ no ≤ up - 1, ?_, ?_⟩
        · refine ⟨_, rfl, rfl, _, rfl, ?_⟩
          rw [int_eq]
          by_cases h0 : no = 0
          · exact iteB (decide_eq_true h0) ⟨_, rfl, _, rfl, fl (by omega)⟩
          refine iteBF (decide_eq_false h0) ⟨_, rfl, _, rfl, _, _, rfl, rfl, _, rfl, ?_⟩
          by_cases h1 : up ≤ no
          · exact iteB (decide_eq_true h1) ⟨_, rfl, _, rfl, fl (by omega)⟩
          refine iteBF (decide_eq_false h1) ⟨_, rfl, pc, _, rfl, .inl (.inl (.inl epc8)), _, _, rfl, rfl, _, rfl, ?_⟩
          cases e : l.getLast? with
          | none =>
            have hl : l = [] := List.getLast?_eq_none_iff.mp e
            have w0 : ws.length = 0 := by rw [al.1, hl]; rfl
            have ln : lastNo l = 0 := by unfold lastNo; rw [e]
            exact iteBF (decide_eq_false (by omega)) (iteF ⟨rfl, rfl, by omega, by omega⟩)
          | some x =>
            obtain ⟨y, hy, cy⟩ := al.2 _ _ (last_at e)
            have wl : 0 < ws.length := by
              have := (List.getElem?_eq_some_iff.mp hy).1
              omega
            have ln : lastNo l = x.no := by unfold lastNo; rw [e]
            obtain ⟨b', u', rfl, f1, _⟩ := cy
            have g1 := x8 _ _ f1 (ne_of f1 ja7.J (by intro z; cases z))
            refine iteB (decide_eq_true (by omega)) ⟨_, rfl, _, rfl, _, rfl, pc, _, rfl, .inl (.inl (.inl epc8)), _, _, rfl, rfl, pc, ws, _, .ref b', rfl, rfl, .inl (.inl epc8), by rw [show (ws.length : Int) - 1 = ((ws.length - 1 : Nat) : Int) from by omega]; exact atI_nat (by rw [al.1]; exact hy), b', _, 0, .int x.no, rfl, rfl, SqT.of g1, rfl, _, _, rfl, rfl, _, rfl, ?_⟩
            by_cases h2 : no ≤ x.no
            · exact iteB (decide_eq_true h2) ⟨_, rfl, _, rfl, fl (by omega)⟩
            · exact iteBF (decide_eq_false h2) ⟨rfl, rfl, by omega, by omega⟩
        rintro σ H9 ⟨rfl, e98, hlo, hhi⟩
        subst e98
        have enoi : p4i (lastNo l + 1) (up - 1) os m = .ok (no, j2) := by
          unfold p4i
          rw [bd_ok eno, if_pos ⟨hlo, hhi⟩]
        have st2 := st.next enoi x8
        refine ⟨Nat.zero_le _, fun pa npa => ?_⟩
        have s9 := same_new (o := .lst []) npa
        have ja9 := ja8.same s9
        have npaj : pa ≠ j := jt_ne ja8 npa
        have npcpa : pc ≠ pa := ne_of_none epc8 npa
        refine ⟨fun σ H10 => ∃ y5 y8 y9 y10 ys as m5, σ = [some (.ref j), some (.int (0 + (i : Int))), some (.int up), some (.int da), some (.ref pc), y5, some (.int no), some (.ref pa), y8, y9, y10] ∧ parrs os j2 = .ok (as, m5) ∧ Ex H9 H10 j ∧ JAt H10 j jo os m5 ∧ H10 pa = some (.lst ys) ∧ All (ArAt H10 C) ys as, ?_, ?_⟩
        · refine ⟨_, rfl, j, jo, os, j2, rfl, ja9, O, ⟨fun k2 m5 ek2 H10 v10 x10 ja10 rl10 => ?_, fun t i et H' d ex hd => st2.bad (by unfold parrs; exact bd_err et) ((Same.ex s9).trans ex) hd⟩⟩
          obtain rfl : v10 = .int k2 := rl10
          have kb2 := (p4_ok ek2 O).1
          refine ⟨k2, rfl, by omega, by omega, for_range (lo := 0) (n := k2.toNat) (fun i' σ H11 => ∃ y5 y8 y9 y10 ys as m6, σ = [some (.ref j), some (.int (0 + (i : Int))), some (.int up), some (.int da), some (.ref pc), y5, some (.int no), some (.ref pa), y8, y9, y10] ∧ rep (parr os) i' m5 = .ok (as, m6) ∧ Ex H9 H11 j ∧ JAt H11 j jo os m6 ∧ H11 pa = some (.lst ys) ∧ All (ArAt H11 C) ys as) ?_ ?_ ?_⟩
          · exact ⟨_, _, _, _, [], [], m5, rfl, rfl, (Same.ex s9).trans x10, ja10, x10 _ _ upd_same npaj, All.nil⟩
          · rintro i' σ H11 hi' ⟨y5, y8, y9, y10, ys, as, m6, rfl, er11, x11, ja11, epa11, al11⟩
            have xl2 := al11.1
            rw [rep_len er11] at xl2
            have hm2 := ja11.le
            have hil2 := rep_lt (fun _ _ _ _ z => parr_lt z) er11
            have su : Jst H11 j jo os (bd (pname os m6) fun s j => if ∀ x ∈ as.getLast?, x.n.cps.toList < s.cps.toList then bd (pshape os j) fun sh j => bd (pcks sh.1 os j) fun cs j => .ok (⟨s, sh.1, sh.2, cs⟩, j) else .error (false, m6)) (fun _ _ (_ : Ar) => True) (fun _ _ => True) E :=
              ⟨fun _ _ _ _ _ _ _ _ => trivial, fun t ii e H' d x2 hd => st2.bad (by unfold parrs; rw [bd_ok ek2]; exact rep_err (Nat.succ_le_of_lt hi') (by rw [rep_succ er11]; exact bd_err e)) (x11.trans x2) hd⟩
            refine ⟨_, rfl, j, _, 1, .int (m6 : Int), rfl, rfl, .inl (.inl ja11.J), rfl, ?_⟩
            refine ⟨_, rfl, j, jo, os, m6, rfl, ja11, O, ⟨fun s j3 es H12 v12 x12 ja12 rl12 => ?_, fun t i et H' d ex hd => su.bad et ex hd⟩⟩
            obtain rfl : v12 = .str s := rl12
            have su2 := su.next es x12
            have epa12 := x12 _ _ epa11 npaj
            refine ⟨fun σ H13 => σ = [some (.ref j), some (.int (0 + (i : Int))), some (.int up), some (.int da), some (.ref pc), some (.int (m6 : Int)), some (.int no), some (.ref pa), some (.int (0 + (i' : Int))), some (.str s), y10] ∧ H13 = H12 ∧ ∀ x ∈ as.getLast?, x.n.cps.toList < s.cps.toList, ?_, ?_⟩
            · refine ⟨_, rfl, pa, _, rfl, .inl (.inl (.inl epa12)), _, _, rfl, rfl, _, rfl, ?_⟩
              cases e : as.getLast? with
              | none =>
                have hl : as = [] := List.getLast?_eq_none_iff.mp e
                have w0 : ys.length = 0 := by rw [al11.1, hl]; rfl
                exact iteBF (decide_eq_false (by omega)) (iteF ⟨rfl, rfl, fun x hx => by cases hx⟩)
              | some x =>
                obtain ⟨y, hy, cy⟩ := al11.2 _ _ (last_at e)
                have wl : 0 < ys.length := by
                  have := (List.getElem?_eq_some_iff.mp hy).1
                  omega
                obtain ⟨b', u', v', rfl, f1, _⟩ := cy
                have g1 := x12 _ _ f1 (ne_of f1 ja11.J (by intro z; cases z))
                refine iteB (decide_eq_true (by omega)) ⟨_, rfl, _, rfl, _, rfl, pa, _, rfl, .inl (.inl (.inl epa12)), _, _, rfl, rfl, pa, ys, _, .ref b', rfl, rfl, .inl (.inl epa12), by rw [show (ys.length : Int) - 1 = ((ys.length - 1 : Nat) : Int) from by omega]; exact atI_nat (by rw [al11.1]; exact hy), b', _, 0, .str x.n, rfl, rfl, SqT.of g1, rfl, s, x.n, rfl, rfl, _, rfl, ?_⟩
                by_cases h2 : x.n.cps.toList < s.cps.toList
                · rw [decide_eq_true h2]
                  exact iteF ⟨rfl, rfl, fun z hz => by cases hz; exact h2⟩
                · rw [decide_eq_false h2]
                  refine iteT ⟨_, rfl, _, rfl, j, "Damaged", _, _, _, _, rfl, ja12.J, fun H' tp d ex f1 f2 => su2.no false m6 (if_neg fun z => h2 (z x e)) H' d ex ⟨tp, _, _, f1, f2⟩⟩
            rintro σ H13 ⟨rfl, e13, hup⟩
            subst e13
            rw [if_pos hup] at su2
            refine ⟨_, rfl, j, jo, os, j3, rfl, ja12, O, ⟨fun sh j4 esh H14 v14 x14 ja14 sh14 => ?_, fun t i et H' d ex hd => su2.bad et ex hd⟩⟩
            have su3 := su2.next esh x14
            obtain ⟨ds, ts⟩ := sh
            have sh14 : ShAt H14 C v14 ds ts := sh14
            have epa14 := x14 _ _ epa12 npaj
            refine ⟨_, rfl, .inl ⟨rfl, _, .inl (.inl epa14)⟩, _, rfl, _, rfl, _, rfl, _, rfl, j, jo, v14, os, j4, ds, ts, rfl, ja14, O, sh14, (pshape_ok esh).1, ⟨fun cs j5 ecs H15 t x15 ja15 ck15 => ⟨(by show 3 ≤ sizeLine; decide), fun t2 nt2 => ?_⟩, fun t i et H' d ex hd => su3.bad et ex hd⟩⟩
            have ck15 : TupAt H15 (CkAt H15) t cs := ck15
            have xx := x12.trans (x14.trans x15)
            have s16 := same_new (o := .tup [.str s, v14, t]) nt2
            have epa16 := s16 _ _ (x15 _ _ epa14 npaj)
            have epk : parr os as m6 = .ok (⟨s, ds, ts, cs⟩, j5) := by
              unfold parr
              rw [bd_ok es, if_pos hup, bd_ok esh, bd_ok ecs]
            refine ⟨pa, ys, .ref t2, rfl, rfl, epa16, big (by omega), _, _, _, _, ys ++ [.ref t2], as ++ [⟨s, ds, ts, cs⟩], j5, rfl, by rw [rep_succ er11, bd_ok epk], ((x11.trans xx).same s16).put npa, JAt.put ja8 (ja15.same s16) npa, upd_same, ?_⟩
            have kt := kt_upd (ys := ys ++ [.ref t2]) epa16
            exact All.push (al11.imp fun y c h => ((ArAt.exJ h xx ja11).same s16).kt kt) ⟨t2, v14, t, rfl, kt _ _ upd_same (fun _ z => nomatch z), ((ShAt.exJ sh14 x15 ja14).same s16).kt kt, ((ck15.same s16 fun _ _ z => z.same s16).kt kt fun _ _ z => z.kt kt)⟩
          · rintro σ H11 ⟨y5, y8, y9, y10, ys, as, m6, rfl, er11, x11, ja11, epa11, al11⟩
            refine ⟨_, _, _, _, ys, as, m6, rfl, ?_, x11, ja11, epa11, al11⟩
            unfold parrs
            rw [bd_ok ek2]
            exact er11
        rintro σ H10 ⟨y5', y8', y9', y10', ys, as, m5, rfl, eas, x10, ja10, epa10, al10⟩
        have epc10 := x10 _ _ epc8 npj
        refine ⟨_, rfl, .inl ⟨rfl, _, .inl (.inl epc10)⟩, _, rfl, _, rfl, pa, ys, rfl, .inl ⟨.inl (.inl epa10), fun t nt => ⟨(by show 2 ≤ sizeLine; decide), fun t2 nt2 => ?_⟩⟩⟩
        have s11 := same_new (o := .tup ys) nt
        have s12 := same_new (o := .tup [.int no, .ref t]) nt2
        have s13 := s11.trans s12
        have epc12 := s13 _ _ epc10
        have xx := x8.trans x10
        have epk : pver up os l m = .ok (⟨no, as⟩, m5) := by
          unfold pver
          rw [bd_ok enoi, bd_ok eas]
        refine ⟨pc, ws, .ref t2, rfl, rfl, epc12, big (by omega), _, _, _, _, _, _, _, ws ++ [.ref t2], l ++ [⟨no, as⟩], m5, rfl, by rw [rep_succ er7, bd_ok epk], ((x7.trans xx).same s13).put npc, JAt.put ja4 (ja10.same s13) npc, upd_same, ?_⟩
        have kt := kt_upd (ys := ws ++ [.ref t2]) epc12
        exact All.push (al.imp fun y c h => ((VeAt.exJ h xx ja7).same s13).kt kt) ⟨t2, .ref t, rfl, kt _ _ upd_same (fun _ z => nomatch z), t, ys, rfl, kt _ _ (s12 _ _ upd_same) (fun _ z => nomatch z), al10.imp fun y c h => (h.same s13).kt kt⟩
      · rintro σ H7 ⟨y1, y5, y6, y7, y8, y9, y10, ws, l, m, rfl, er7, x7, ja7, epc7, al⟩
        exact ⟨_, _, _, _, _, _, _, ws, l, k, m0, m, rfl, ek, er7, x7, ja7, epc7, al⟩
    rintro σ H7 ⟨y1', y5, y6, y7, y8, y9, y10, ws, l, k, m0, m, rfl, ek, er7, x7, ja7, epc7, al⟩
    have q7 := (q4.next ek idx4).next er7 x7
    have hm := ja7.le
    refine ⟨_, rfl, j, _, 1, .int (m : Int), rfl, rfl, .inl (.inl ja7.J), rfl, ?_⟩
    refine ⟨_, rfl, j, jo, os, m, rfl, ja7, O, ⟨fun tot j2 et H9 v9 x9 ja9 rl9 => ?_, fun t i et H' d ex hd => q7.bad (by unfold p4i; exact bd_err et) ex hd⟩⟩
    obtain rfl : v9 = .int tot := rl9
    refine ⟨_, rfl, j, _, 0, .ref jo, rfl, rfl, .inl (.inl ja9.J), rfl, _, rfl, _, rfl, jo, _, rfl, .inl (.inl ja9.o), fun p np => ?_⟩
    have ecut : cutV (os.map V.int) none (some (m : Int)) = (os.take m).map V.int := by
      unfold cutV
      rw [show HT.sIx (os.map V.int).length (os.map V.int).length (some (m : Int)) = min m (os.map V.int).length from HT.sIx_nat _ _ _, List.length_map, Nat.min_eq_left hm]
      show ((os.map V.int).drop 0).take (m - 0) = _
      rw [List.drop_zero, Nat.sub_zero, ← List.map_take]
    rw [ecut]
    have s10 := same_new (o := .lst ((os.take m).map V.int)) np
    have ja10 := ja9.same s10
    have x10 := x9.same s10
    refine ⟨p, os.take m, rfl, .inl (.inl upd_same), rfl, _, rfl, ?_⟩
    rw [int_eq]
    by_cases htot : tot = sumO (os.take m)
    case neg =>
      refine iteB (by rw [decide_eq_false htot]; rfl) ⟨_, rfl, _, rfl, j, "Damaged", _, _, _, _, rfl, ja10.J, fun H' tp d ex f1 f2 => q7.bad (t := false) (i := m) ?_ (x10.trans ex) ⟨tp, _, _, f1, f2⟩⟩
      unfold p4i
      rw [bd_ok et, if_neg (by omega)]
    refine iteBF (by rw [decide_eq_true htot]; rfl) ?_
    have eti : p4i (sumO (os.take m)) (sumO (os.take m)) os m = .ok (tot, j2) := by
      unfold p4i
      rw [bd_ok et, if_pos ⟨by omega, by omega⟩]
    have q8 := q7.next eti x10
    have hj2 := ja9.le
    refine ⟨_, rfl, j, _, 1, .int (j2 : Int), rfl, rfl, .inl (.inl ja10.J), rfl, _, rfl, j, _, 0, .ref jo, rfl, rfl, .inl (.inl ja10.J), rfl, jo, _, rfl, .inl (.inl (.inl ja10.o)), _, _, rfl, rfl, _, rfl, ?_⟩
    rw [List.length_map]
    by_cases hj : j2 = os.length
    case neg =>
      rw [if_neg hj] at q8
      exact iteB (decide_eq_true (by omega)) ⟨_, rfl, _, rfl, j, _, 1, .int (j2 : Int), rfl, rfl, .inl (.inl ja10.J), rfl, j, "Damaged", _, _, _, _, rfl, ja10.J, fun H' tp d ex f1 f2 => q8.no false j2 rfl H' d ex ⟨tp, _, _, f1, f2⟩⟩
    rw [if_pos hj] at q8
    refine iteBF (decide_eq_false (by omega)) ?_
    have epc10 := x10 _ _ epc7 npj
    refine ⟨_, rfl, _, rfl, _, rfl, pc, ws, rfl, .inl ⟨.inl (.inl epc10), fun t nt => ?_⟩⟩
    intro a' dxa na ndxa nae
    refine ⟨a', dxa, .int up, .int da, .ref t, rfl, upd_same, fun H11 x11 e11 => ⟨rfl, ?_⟩⟩
    have s911 := (same_new (o := .tup ws) nt).trans (mk_same na ndxa x11)
    have al9 := al.imp fun y c (h : VeAt H7 C y c) => (VeAt.exJ h x9 ja7).same s10
    refine q8.ok _ _ rfl H11 _ (Same.ex s911) (ja10.same s911) ⟨a', dxa, .ref t, rfl, e11, t, ws, rfl, ?_, al9.imp fun y c h => h.same s911⟩
    exact mk_same na ndxa x11 _ _ upd_same
end
end K2

namespace L2
open PySem PySem.Spec PyProof.Rows
/-! several clauses 'except x as n' with one name n, the i-th slot -/
def gone (i : Nat) (D : Ends) : Ends := { nx := fun σ H => D.nx (σ.set i none) H, rt := D.rt, bk := fun σ H => D.bk (σ.set i none) H, ct := fun σ H => D.ct (σ.set i none) H }
def wAsM (K : PySem.W.Frag) (i : Nat) (Wout : WX) (D : Ends) : List (Value × (Addr → Value → Option Addr → TS)) → WX
  | [] => Wout
  | (c, ts) :: r => fun cls d σ H => ∃ b, PySem.W.exmOne K cls c = some b ∧ (b = true → ∀ a, H a = none → ts a cls d (gone i D) (σ.set i (some (.ref a))) H) ∧ (b = false → wAsM K i Wout D r cls d σ H)
inductive AsOk (X : Cx) (n : Str) : List ExceptHandler → List (Value × (Addr → Value → Option Addr → TS)) → Prop
  | nil : AsOk X n [] []
  | cons {x : Str} {c : Value} {ts : Addr → Value → Option Addr → TS} {b₀ : Stmt} {suite : List Stmt} {np pos' : Pos} {hds : List ExceptHandler} {l : List (Value × (Addr → Value → Option Addr → TS))} (hc : Names X x c)
      (hsu : ∀ (a : Addr) (oe : Obj) (cls : Value) (d : Option Addr) (pn : List (Addr × Obj)), Zc cls d oe → (∃ vs, oe.data = .fields vs) → PSs (X.suite a ((a, oe) :: pn)) (b₀ :: suite) (ts a cls d)) (r : AsOk X n hds l) :
      AsOk X n (.ExceptHandler (some (.Name x np)) (some n) (b₀ :: suite) pos' :: hds) ((c, ts) :: l)
section
variable {X : Cx} {n : Str} {i : Nat} {body : List Stmt} {h₀ : ExceptHandler} {hds : List ExceptHandler} {l : List (Value × (Addr → Value → Option Addr → TS))} {pos : Pos} {tb : WX → TS} {Wout : WX}
/-- an exception that has come down is handed to the clauses -/
theorem clauses_as {pins : List (Addr × Obj)} {σ' : St} {H' : Hp} {D : Ends} {a : Addr} {B : Heap} {sI s' : Shared} {cls : Value} {d : Option Addr} {h3 : Heap} (ok : X.Ok) (hs : X.stack = X.env :: X.outer) (hf : X.env.frame = some X.env.locals) (hN : X.N.Nodup) (hi : X.N[i]? = some n)
    (hln : X.env.kindOf n = some .local) (tk : Takes X Wout) (J : Inv X pins σ' H' sI) (nb : ∀ b o, sI.heap.get? b = some o → b ∉ frs X.stack → B.get? b = some o) (up : sI.heap.UpToSlots h3) (na : H' a = none) (os : s'.os = sI.os) (ag : AllBare s'.gens)
    (fl : HandSPX.FlyingZ B (X.env :: X.outer) a (Zc cls d) h3) : ∀ {hds : List ExceptHandler} {l : List (Value × (Addr → Value → Option Addr → TS))}, AsOk X n hds l → wAsM X.K i Wout D l cls d σ' H' →
      wpAny (model X.prog X.w) X.A (handleBy (.ref a) X.env hds) (SP X pins D) X.xe { s' with heap := h3 } := by
  have J3 : Inv X pins σ' H' { s' with heap := h3 } := J.landed nb fl.1 up os ag
  obtain ⟨oe, vs, he, hz, hd⟩ := fl.there
  have nfr : a ∉ frs (X.env :: X.outer) := fun hm => by
    obtain ⟨_, o', e', hnf⟩ := fl.2.2.1.mem hm
    rw [he] at e'
    cases e'
    exact hnf _ hd
  have nL : a ≠ X.env.locals := fun z => nfr (List.mem_filterMap.mpr ⟨X.env, List.mem_cons_self, by rw [hf, z]⟩)
  have nF : a ∉ X.fs := fun hm => by
    obtain ⟨e, h1, q⟩ := List.mem_filterMap.mp hm
    exact nfr (List.mem_filterMap.mpr ⟨e, List.mem_cons_of_mem _ h1, q⟩)
  have S3 := J3.suite he hd na nL nF
  intro hds l hk
  induction hk with
  | nil =>
    intro w
    refine wpAny_handleBy_nil ?_
    obtain ⟨_, _, _, oe1, vs1, T, oT, ts1, he1, hz1, hd1, h1, _⟩ := id fl
    have on : wpAny (model X.prog X.w) X.A (setFlight (.ref a) X.env.frame) (fun _ s4 => wpAny (model X.prog X.w) X.A (throw (.ref a) : Sem Flow) (SP X pins D) X.xe s4) X.xe { s' with heap := h3 } := by
      rw [hf]
      refine HandSPX.setFlight_upZ fl fun h4 hh4 up4 => wpAny_throw (tk _ _ ⟨a, B, sI, pins, σ', H', cls, d, rfl, J, nb, up.trans up4, .inr (.inr ?_), na, os, ag, w⟩)
      rw [hs]
      exact hh4
    unfold PySem.passOn
    refine wpAny_bind (wpAny_field he1 hd1 h1 ?_)
    rw [if_neg (show ¬ ((Value.ref T == Value.none) = true) from by simp)]
    first
      | exact wpAny_bind (wpAny_pure (wpAny_bind on))
      | exact wpAny_bind on
  | @cons x c ts b₀ suite np pos' hds2 l2 hc hsu r ih =>
    rintro ⟨b, hb1, hyes, hno⟩
    refine wpAny_handleBy_cons (codeAny_handlers_test ?_) (by intro q; cases q)
    have LT : PySem.W.Looks (model X.prog X.w) h3 (typeOf (.ref a)) cls := fun A Q E s k q => wpAny_typeOf_ref (k _ _ he) (by rw [hz.1]; exact q)
    have look : ∀ {Q : Value → Shared → Prop} {E : Value → Shared → Prop}, Q c { s' with heap := h3 } → wpAny (model X.prog X.w) (X.A.mark (some (.ref a))) (eval (.Name x np) X.env) Q E { s' with heap := h3 } := fun {Q E} q => by
      obtain ⟨hg, hdbg, hm | ⟨hm, hv, hnn⟩⟩ := hc
      · exact ld_glob (X := X.suite a ((a, oe) :: (X.pn ++ pins))) S3 hg hm q hdbg
      · exact ld_blt (X := X.suite a ((a, oe) :: (X.pn ++ pins))) S3 hg hm hv q hnn hdbg
    refine look ((PySem.W.exm_one (M := model X.prog X.w) (J3.kIn) LT hb1).here ?_)
    cases b with
    | false =>
      show wpAny _ X.A (handleBy (.ref a) X.env hds2) _ _ _
      exact ih (hno rfl)
    | true =>
      refine codeAny_handlers_suite_as (HandSPX.lands_againZ fl fun h4 fl4 up4 => ?_)
      have J4 : Inv X pins σ' H' { s' with heap := h4 } := J.landed nb fl4.1 (up.trans up4) os ag
      obtain ⟨oe4, vs4, he4, hz4, hd4⟩ := fl4.there
      refine store_ok (X := X.suite a ((a, oe4) :: (X.pn ++ pins))) (v := .ref a) (J4.suite he4 hd4 na nL nF) hN hi (.inl hln) rfl (fun s5 S5 => ?_) (.inr hln)
      refine wpAny_mono ((hsu a oe4 cls d (X.pn ++ pins) hz4 ⟨_, hd4⟩).run [] s5 _ H' _ S5 (hyes rfl a na)) (fun f s6 hsp => ?_) (fun _ _ z => False.elim z)
      have away : ∀ {σ6 : St} {H6 : Hp} {Q : Shared → Prop}, Inv (X.suite a ((a, oe4) :: (X.pn ++ pins))) [] σ6 H6 s6 → (∀ s7, Inv X pins (σ6.set i none) H6 s7 → Q s7) →
          wpAny (model X.prog X.w) X.A (do bindName X.env n .none; unbindBehindTheSuite X.env n pos') (fun _ s7 => Q s7) X.xe s6 := fun {σ6 H6 Q} S6 hq => gone_ok (S6.unsuite ok) hN hi hln hq
      cases f with
      | ret u =>
        obtain ⟨v6, σ6, H6, S6, r6, q6⟩ := hsp
        exact away S6 fun s7 J7 => ⟨_, _, _, J7, r6, q6⟩
      | next =>
        obtain ⟨σ6, H6, S6, q6⟩ := hsp
        exact away S6 fun s7 J7 => ⟨_, _, J7, q6⟩
      | brk =>
        obtain ⟨σ6, H6, S6, q6⟩ := hsp
        exact away S6 fun s7 J7 => ⟨_, _, J7, q6⟩
      | cont =>
        obtain ⟨σ6, H6, S6, q6⟩ := hsp
        exact away S6 fun s7 J7 => ⟨_, _, J7, q6⟩
theorem ps_try_manyAs (hs : X.stack = X.env :: X.outer) (hf : X.env.frame = some X.env.locals) (hN : X.N.Nodup) (hi : X.N[i]? = some n) (hln : X.env.kindOf n = some .local) (tk : Takes X Wout)
    (hb : ∀ (W : WX) (pn : List (Addr × Obj)) (xe : Value → Shared → Prop), Takes (X.tr pn xe) W → PassesOwn (model X.prog X.w) X.A X.env xe → PSs (X.tr pn xe) body (tb W))
    (hh : AsOk X n (h₀ :: hds) l) : PS X (.Try body (h₀ :: hds) [] [] pos) (fun D σ H => tb (wAsM X.K i Wout D l) D σ H) := by
  refine ⟨fun pins s σ H D I h => ?_⟩
  have ok := I.ok
  have hfr : X.A.frames = some (X.env :: X.outer) := by rw [ok.frames, hs]
  refine wpAny_Try_except ?_
  refine wpAny_mono ((hb (wAsM X.K i Wout D l) (X.pn ++ pins) (fun e s₁ => wpAny (model X.prog X.w) X.A (noteFrame e X.env) (fun _ s₂ => wpAny (model X.prog X.w) X.A (setFlight e none) (fun _ s₃ =>
    wpAny (model X.prog X.w) X.A (handleBy e X.env (h₀ :: hds)) (SP X pins D) X.xe s₃) X.xe s₂) X.xe s₁) (fun u s' xx => ?_) PassesOwn.looking).run [] s σ H D (I.toTry _) h) (fun f s1 hsp => ?_) (fun e s1 he => he)
  · obtain ⟨a, B, sI, pins', σ', H', cls, d, rfl, J', nb, up, sky, na, os, ag, w⟩ := xx
    have sky' : Sky B (X.env :: X.outer) a (Zc cls d) X.env.locals s'.heap := by rw [← hs]; exact sky
    show wpAny (model X.prog X.w) X.A (noteFrame (.ref a) X.env) _ _ _
    exact Sky.land Zc.steady hfr hf sky' fun h3 fl3 up3 => clauses_as ok hs hf hN hi hln tk (J'.ofTry ok) nb (up.trans up3) na os ag fl3 hh w
  · cases f with
    | ret u =>
      obtain ⟨v, σ', H', J', r, q⟩ := hsp
      exact ⟨v, σ', H', J'.ofTry ok, r, q⟩
    | next =>
      obtain ⟨σ', H', J', q⟩ := hsp
      exact wpAny_execs_nil ⟨σ', H', J'.ofTry ok, q⟩
    | brk =>
      obtain ⟨σ', H', J', q⟩ := hsp
      exact ⟨σ', H', J'.ofTry ok, q⟩
    | cont =>
      obtain ⟨σ', H', J', q⟩ := hsp
      exact ⟨σ', H', J'.ofTry ok, q⟩
end
end L2
namespace K2
open PySem L2
section
variable {P : Program} {w : World} {K : PySem.W.Frag} {mg : Str → Option Value} {base : Heap}
theorem ix_listK {X : Cx} (K : PySem.W.Frag) (h : X.K = K) : IxR X (rIxL K) := by
  subst h
  exact ix_list
def FAt (H : Hp) (v : V) (t : Bool) (i : Nat) : Prop := ∃ tp, v = .ref tp ∧ H tp = some (.tup [.str (erN t), .int (i : Int)])
def spTold (CR C : Addr) : Sp := fun vs H Q _ => ∃ (l0 : Addr) (os : List Int), vs = [.ref l0] ∧ H l0 = some (.lst (os.map V.int)) ∧ Os os ∧
  (∀ x m, proot os = .ok (x, m) → ∀ H' v, Same H H' → RRt CR C H' v x → Q v H') ∧ (∀ t i, proot os = .error (t, i) → ∀ H' v, Same H H' → FAt H' v t i → Q v H')
theorem scDue : FnScope ["octets", "job"] ["octets"] (defScope sLDue) := ⟨rfl, rfl, rfl, by decide +kernel, rfl, by decide +kernel, by decide +kernel⟩
theorem ok_due {f fR CR C : Addr} {fd fdR : FuncData} (F : Fun K "_law_due" "_law_due" sLDue f fd) (ke : mg "KeyError" = none) (GR : FnOk P w K mg base (L2.CX P w) 5 fR fdR ["job"] (spLR CR C)) (kR : PySem.W.keepIn K (.ref fR) = true) (bR : Binds K fdR ["job"] []) (gR : mg "_law_read" = some (.ref fR)) :
    FnOk P w K mg base CX0 6 f fd ["octets"] (spTold CR C) := by
  refine F.ok scDue (fun vs H Q E h => ?_) (fun cdv A outer s H vs Q E hr h => ?_)
  · obtain ⟨l0, os, rfl, _⟩ := h
    rfl
  · obtain ⟨l0, os, rfl, h0, O, q, qe⟩ := h
    refine ⟨_, pss_cons (ps_set (i := 1) scDue.nd rfl (.inl rfl) (pe_lst (pa_cons (pv 0) (pa_cons pe_int (pa_cons pe_non pa_nil)))))
      (pss_one (ps_try_only (Wout := fun _ _ _ _ => False) rfl rfl (names_blt (by rfl) ke boot_KeyError) takes0
        (fun W pn xe tk _ => pss_one (ps_ret (pe_callS GR hr (by rfl) gR kR bR (fun σ => passAt tk σ) (pa_cons (pv 1) pa_nil))))
        (fun a oe cls d pn hz hf => pss_one (ps_ret (pe_ix (ix_listK K rfl) (pv 1) pe_int (fun _ _ => rfl)))))), ?_⟩
    refine ⟨_, rfl, (by show 3 ≤ sizeLine; decide), fun j nj => ?_⟩
    have s1 := same_new (o := .lst [.ref l0, .int 0, .non]) nj
    have toS : ∀ {H' : Hp}, Ex (upd H j (.lst [.ref l0, .int 0, .non])) H' j → Same H H' := fun x c o e => x c o (s1 _ _ e) (ne_of_none e nj)
    refine ⟨_, rfl, j, l0, os, rfl, ⟨upd_same, s1 _ _ h0, Nat.zero_le _, ne_of_none h0 nj⟩, O, ⟨fun x m e H' v ex ja rr => q x m e H' v (toS ex) rr, fun t i e H' d ex ⟨tp, u, v, e1, e2⟩ => ?_⟩⟩
    exact ⟨true, exm_KE, fun _ a na => ⟨_, rfl, j, _, 2, .ref tp, rfl, rfl, .inl (.inl e1), rfl, qe t i e H' _ (toS ex) ⟨tp, rfl, e2⟩⟩, fun z => by cases z⟩
theorem scTold : FnScope ["octets", "e"] ["octets"] (defScope sTold) := ⟨rfl, rfl, rfl, by decide +kernel, rfl, by decide +kernel, by decide +kernel⟩
theorem ok_told {f fR CT CD CR C : Addr} {fd fdR : FuncData} (F : Fun K "_law_told" "_law_told" sTold f fd) (Z : EF P w K mg base CT CD) (eT : PySem.W.exmOne K (.ref CT) (.ref CT) = some true) (eD : PySem.W.exmOne K (.ref CD) (.ref CD) = some true) (eDT : PySem.W.exmOne K (.ref CD) (.ref CT) = some false)
    (GR : FnOk P w K mg base (L2.CX P w) 8 fR fdR ["octets"] (spDR CT CD CR C)) (kR : PySem.W.keepIn K (.ref fR) = true) (bR : Binds K fdR ["octets"] []) (gR : mg "decode_root" = some (.ref fR)) : FnOk P w K mg base CX0 9 f fd ["octets"] (spTold CR C) := by
  refine F.ok scTold (fun vs H Q E h => ?_) (fun cdv A outer s H vs Q E hr h => ?_)
  · obtain ⟨l0, os, rfl, _⟩ := h
    rfl
  · obtain ⟨l0, os, rfl, h0, O, q, qe⟩ := h
    refine ⟨_, pss_one (ps_try_manyAs (i := 1) (Wout := fun _ _ _ _ => False) rfl rfl scTold.nd rfl rfl takes0
        (fun W pn xe tk _ => pss_one (ps_ret (pe_callS GR hr (by rfl) gR kR bR (fun σ => passAt tk σ) (pa_cons (pv 0) pa_nil))))
        (.cons ⟨rfl, by decide, .inl Z.gT⟩ (fun a oe cls d pn hz hf => pss_one (ps_ret (pe_tup (pa_cons pe_str (pa_cons (pe_xf Z.T.xf Z.T.noP hz hf (pv 1)) pa_nil)))))
        (.cons ⟨rfl, by decide, .inl Z.gD⟩ (fun a oe cls d pn hz hf => pss_one (ps_ret (pe_tup (pa_cons pe_str (pa_cons (pe_xf Z.D.xf Z.D.noP hz hf (pv 1)) pa_nil))))) .nil))), ?_⟩
    refine ⟨_, rfl, l0, os, rfl, h0, O, fun x m e H' v s1 rr => q x m e H' v s1 rr, fun t i e H' d s1 hd => ?_⟩
    cases t with
    | true =>
      refine ⟨true, eT, fun _ a na => ?_, fun z => by cases z⟩
      exact ⟨_, rfl, rfl, rfl, d, _, .int (i : Int), rfl, hd, rfl, (by show 2 ≤ sizeLine; decide), fun t nt => qe true i e _ _ (s1.trans (same_new nt)) ⟨t, rfl, upd_same⟩⟩
    | false =>
      refine ⟨false, eDT, (fun z => by cases z), fun _ => ⟨true, eD, fun _ a na => ?_, fun z => by cases z⟩⟩
      exact ⟨_, rfl, rfl, rfl, d, _, .int (i : Int), rfl, hd, rfl, (by show 2 ≤ sizeLine; decide), fun t nt => qe false i e _ _ (s1.trans (same_new nt)) ⟨t, rfl, upd_same⟩⟩
end
end K2

namespace K2
open PySem L2
theorem Ex.freeS {H H1 : Hp} {S p : Addr} (x : Ex H H1 S) (t : SAt H1 S) (h : H1 p = none) : H p = none := by
  cases e : H p with
  | none => rfl
  | some o =>
    have n : p ≠ S := fun z => by
      obtain ⟨a, b, f⟩ := t
      rw [z, f] at h
      cases h
    rw [x p o e n] at h
    cases h
theorem SAt.ne {H : Hp} {S p : Addr} (t : SAt H S) (h : H p = none) : p ≠ S := fun z => by
  obtain ⟨a, b, f⟩ := t
  rw [z, f] at h
  cases h
theorem SAt.put {H : Hp} {S p : Addr} {o : HO} (t : SAt H S) (h : p ≠ S) : SAt (upd H p o) S := by
  obtain ⟨a, b, f⟩ := t
  exact ⟨a, b, by rw [upd_ne h.symm]; exact f⟩
theorem SAt.same {H H1 : Hp} {S : Addr} (t : SAt H S) (s : Same H H1) : SAt H1 S := by
  obtain ⟨a, b, f⟩ := t
  exact ⟨a, b, s _ _ f⟩
theorem cut_ab {v : Int} (h0 : 0 ≤ v) (h1 : v < 3) : ∃ k, k ≤ 2 ∧ cutV [V.str "a", .str "b"] none (some v) = ((["a", "b"] : List Str).take k).map V.str := by
  obtain ⟨k, rfl⟩ : ∃ k : Nat, v = (k : Int) := ⟨v.toNat, by omega⟩
  match k, h1 with
  | 0, _ => exact ⟨0, by decide, rfl⟩
  | 1, _ => exact ⟨1, by decide, rfl⟩
  | 2, _ => exact ⟨2, by decide, rfl⟩
  | n + 3, h => exact absurd h (by omega)
theorem shLen {ds : List D} {ts : List T} (h : DrSh ds ts) : ds.length ≤ 2 ∧ ts.length ≤ 2 := by
  obtain ⟨i, _, hi, e⟩ := h.i
  obtain ⟨j, _, hj, f⟩ := h.j
  have h1 := congrArg List.length e
  have h2 := congrArg List.length f
  rw [List.length_map, List.length_take] at h1 h2
  omega
theorem rowsF_pos {ds : List D} (h : ∀ d ∈ ds, DrD d) : ∀ i, i ≤ ds.length → 0 < (rowsF (ds.take i)).length
  | 0, _ => by
    rw [List.take_zero]
    exact Nat.one_pos
  | i + 1, hi => by
    have ih := rowsF_pos h i (Nat.le_of_succ_le hi)
    rw [rowsF_succ (Nat.lt_of_succ_le hi)]
    have c := (cnt_le (h _ (List.getElem_mem (Nat.lt_of_succ_le hi)))).2
    have dr := h _ (List.getElem_mem (Nat.lt_of_succ_le hi))
    unfold DrD at dr
    have nn := Int.ediv_nonneg (a := ds[i].h - ds[i].l) (b := ds[i].s) (by omega) (by omega)
    generalize ds[i] = d at c dr nn ⊢
    generalize rowsF (ds.take i) = rs at ih ⊢
    cases rs with
    | nil => exact absurd ih (Nat.lt_irrefl 0)
    | cons r t =>
      unfold rowS
      rw [List.flatMap_cons, List.length_append, List.length_map, List.length_range]
      omega
/-- an array that is drawn -/
structure DAr (r : Ar) : Prop where
  n : r.n ∈ (["a", "b"] : List Str)
  sh : DrSh r.ds r.ts
  cl : r.cs.length ≤ 81
  c : ∀ c ∈ r.cs, c.c.length ≤ 2
structure DRo (rs : List Ve) : Prop where
  l : rs.length ≤ 2
  as : ∀ r ∈ rs, r.as.length ≤ 2 ∧ ∀ a ∈ r.as, DAr a
section
variable {P : Program} {w : World} {K : PySem.W.Frag} {mg : Str → Option Value} {base : Heap}
def spRo (K : PySem.W.Frag) (CR C : Addr) : Sp := fun vs H Q _ => ∃ (S scr : Addr) (ns : List Int), vs = [.ref S, .ref scr] ∧ SAt H S ∧ (∀ H', Ex H H' S → SqL K H' scr (ns.map V.int)) ∧
  ∀ H' v rs, Ex H H' S → SAt H' S → RtAt H' CR C v 6 1 rs → DRo rs → Q v H'
theorem scRo : FnScope ["state", "script", "versions", "k", "arrays", "name", "shape", "chunks", "chunk"] ["state", "script"] (defScope sLRoot) := ⟨rfl, rfl, rfl, by decide +kernel, rfl, by decide +kernel, by decide +kernel⟩
theorem ok_ro {f fD fS fC fR CR C : Addr} {fd fdD fdS fdC fdR : FuncData} (F : Fun K "_law_root" "_law_root" sLRoot f fd) (M : Nm mg)
    (GD : FnOk P w K mg base CX0 1 fD fdD ["state", "script", "size"] (spDraw K)) (kD : PySem.W.keepIn K (.ref fD) = true) (bD : Binds K fdD ["state", "script", "size"] []) (gD : mg "_law_draw" = some (.ref fD))
    (GS : FnOk P w K mg base CX0 3 fS fdS ["state", "script"] (spLSh K C)) (kS : PySem.W.keepIn K (.ref fS) = true) (bS : Binds K fdS ["state", "script"] []) (gS : mg "_law_shape" = some (.ref fS))
    (GC : FnOk P w K mg base CX0 1 fC fdC ["shape"] (spLC C)) (kC : PySem.W.keepIn K (.ref fC) = true) (bC : Binds K fdC ["shape"] []) (gC : mg "_law_chunks" = some (.ref fC))
    (R : KC K CR fR RHf) (GR : FnOk P w K mg base CX0 1 fR fdR ["self", "upcoming", "data", "versions"] (RIn CR C)) (bR : Binds K fdR ["self", "upcoming", "data", "versions"] []) (gR : mg "Root" = some (.ref CR)) : FnOk P w K mg base CX0 4 f fd ["state", "script"] (spRo K CR C) := by
  refine F.ok scRo (fun vs H Q E h => ?_) (fun cdv A outer s H vs Q E hr h => ?_)
  · obtain ⟨S, scr, ns, rfl, _⟩ := h
    rfl
  · obtain ⟨S, scr, ns, rfl, hS, sq, q⟩ := h
    have hr1 := hr.mono (j := 1) (by decide)
    have hr2 := hr.mono (j := 2) (by decide)
    refine ⟨_, (pss_cons (ps_set (i := 2) scRo.nd rfl (.inl rfl) (pe_lst pa_nil))
      (Evl.pss_cut (ps_for PassesOwn.never rfl (pi_range1 (by rfl) M.range (pa_cons (pe_call GD hr1 (by rfl) gD kD bD .nil pass0 (pa_cons (pv 0) (pa_cons (pv 1) (pa_cons pe_int pa_nil)))) pa_nil)) (pg_name (i := 3) scRo.nd rfl (.inl rfl)) (pss_cons (ps_set (i := 4) scRo.nd rfl (.inl rfl) (pe_lst pa_nil))
      (Evl.pss_cut (ps_for PassesOwn.never rfl (pi_list (pe_slice sl_list (pe_lst (pa_cons pe_str (pa_cons pe_str pa_nil))) po_none (po_some (pe_call GD hr1 (by rfl) gD kD bD .nil pass0 (pa_cons (pv 0) (pa_cons (pv 1) (pa_cons pe_int pa_nil))))))) (pg_name (i := 5) scRo.nd rfl (.inl rfl)) (pss_cons (ps_set (i := 6) scRo.nd rfl (.inl rfl) (pe_call GS hr (by rfl) gS kS bS .nil pass0 (pa_cons (pv 0) (pa_cons (pv 1) pa_nil))))
      (Evl.pss_cut (ps_setLc (i := 7) (own := [("chunk", 8)]) (g := gName 8) rfl scRo.nd rfl rfl (sw_true rfl rfl rfl (by decide +kernel)) (pi_list (pe_call GC hr1 (by rfl) gC kC bC .nil pass0 (pa_cons (pv 6) pa_nil)))
              (blkOk_by (N := ["state", "script", "versions", "k", "arrays", "name", "shape", "chunks", "chunk"]) (sc := defScope sLRoot) (by decide +kernel))
              (fun _ _ _ _ _ => pg_name (i := 8) scRo.nd rfl (Or.inl rfl)) (fun _ _ _ _ _ => pts_one (pt_cmpR op_eq (pe_call GD hr1 (by rfl) gD kD bD .nil pass0 (pa_cons (pv 0) (pa_cons (pv 1) (pa_cons pe_int pa_nil)))) pe_int (nomark _))) (fun _ _ _ _ _ => (pe_tup (pa_cons (pv 8) (pa_cons pe_int (pa_cons pe_int pa_nil))))))
      (pss_one (ps_expr (pe_bm PySem.F.plainAttrs_list PySem.F.slot_list_append PySem.F.type_list_append mt_append (pv 4) (pa_cons (pe_tup (pa_cons (pv 5) (pa_cons (pv 6) (pa_cons (pe_callTy call_tuple_of (by rfl) M.tuple (by decide +kernel) (pa_cons (pv 7) pa_nil)) pa_nil)))) pa_nil)))))))
      (pss_one (ps_expr (pe_bm PySem.F.plainAttrs_list PySem.F.slot_list_append PySem.F.type_list_append mt_append (pv 2) (pa_cons (pe_tup (pa_cons (pe_op op_add (pe_op op_mul pe_int (pv 3)) pe_int) (pa_cons (pe_callTy call_tuple_of (by rfl) M.tuple (by decide +kernel) (pa_cons (pv 4) pa_nil)) pa_nil))) pa_nil)))))))
      (pss_one (ps_ret (pe_make R.mkC GR hr2 (by rfl) gR bR .nil pass0 (pa_cons pe_int (pa_cons pe_int (pa_cons (pe_callTy call_tuple_of (by rfl) M.tuple (by decide +kernel) (pa_cons (pv 2) pa_nil)) pa_nil)))))))), ?_⟩
    refine ⟨Nat.zero_le _, fun lv nlv => ?_⟩
    have x0 : Ex H (upd H lv (.lst [])) S := Same.ex (same_new nlv)
    have nlvS := hS.ne nlv
    have st0 : SAt (upd H lv (.lst [])) S := hS.put nlvS
    refine ⟨fun σ H2 => ∃ y3 y4 y5 y6 y7 y8 ws rs, σ = [some (.ref S), some (.ref scr), some (.ref lv), y3, y4, y5, y6, y7, y8] ∧ Ex H H2 S ∧ SAt H2 S ∧ H2 lv = some (.lst ws) ∧ All (VeAt H2 C) ws rs ∧ DRo rs, ?_, ?_⟩
    · refine ⟨_, rfl, _, rfl, S, scr, 3, ns, rfl, by decide, by decide, st0, sq _ x0, fun H1 v k1 t1 v0 v1 => ?_⟩
      refine ⟨v, rfl, by omega, by omega, for_range (lo := 0) (n := v.toNat) (fun i σ H2 => ∃ y3 y4 y5 y6 y7 y8 ws rs, σ = [some (.ref S), some (.ref scr), some (.ref lv), y3, y4, y5, y6, y7, y8] ∧ Ex H H2 S ∧ SAt H2 S ∧ H2 lv = some (.lst ws) ∧ All (VeAt H2 C) ws rs ∧ rs.length = i ∧ ∀ r ∈ rs, r.as.length ≤ 2 ∧ ∀ a ∈ r.as, DAr a) ?_ ?_ ?_⟩
      · exact ⟨none, none, none, none, none, none, [], [], rfl, x0.trans k1, t1, k1 _ _ upd_same nlvS, All.nil, rfl, fun r h => absurd h List.not_mem_nil⟩
      · rintro i σ H2 hi ⟨y3, y4, y5, y6, y7, y8, ws, rs, rfl, x2, t2, elv, al, hlen, hrs⟩
        refine ⟨Nat.zero_le _, fun la nla => ?_⟩
        have nlaS := t2.ne nla
        have x4 : Ex H2 (upd H2 la (.lst [])) S := Same.ex (same_new nla)
        have t4 : SAt (upd H2 la (.lst [])) S := t2.put nlaS
        refine ⟨fun σ H7 => ∃ y5 y6 y7 y8 ws2 as, σ = [some (.ref S), some (.ref scr), some (.ref lv), some (.int (0 + (i : Int))), some (.ref la), y5, y6, y7, y8] ∧ Ex H2 H7 S ∧ SAt H7 S ∧ H7 la = some (.lst ws2) ∧ All (ArAt H7 C) ws2 as ∧ as.length ≤ 2 ∧ ∀ a ∈ as, DAr a, ?_, ?_⟩
        · refine ⟨(by show 2 ≤ sizeLine; decide), fun L nL => ?_⟩
          have nLS := t4.ne nL
          have sL := same_new (o := .lst [.str "a", .str "b"]) nL
          have t4' := t4.same sL
          have x4' := x4.same sL
          refine ⟨_, rfl, _, rfl, S, scr, 3, ns, rfl, by decide, by decide, t4', sq _ (x2.trans x4'), fun H5 v5 k5 t5 b0 b1 => ?_⟩
          refine ⟨v5, rfl, L, _, rfl, .inl (.inl (k5 _ _ upd_same nLS)), fun L2 nL2 => ?_⟩
          obtain ⟨nk, hnk, ecut⟩ := cut_ab b0 b1
          rw [ecut]
          have nL2S := t5.ne nL2
          have x5 : Ex H2 H5 S := x4'.trans k5
          have nL2H2 : H2 L2 = none := x5.freeS t5 nL2
          have ela5 : H5 la = some (.lst []) := k5 _ _ (sL _ _ upd_same) nlaS
          have nL2la : L2 ≠ la := fun z => by rw [z, ela5] at nL2; cases nL2
          refine ⟨L2, rfl, ⟨_, .inl (.inl upd_same)⟩, for_it (walk_list (xs := ((["a", "b"] : List Str).take nk).map V.str)) (fun j σ H7 => ∃ y5 y6 y7 y8 ws2 as, σ = [some (.ref S), some (.ref scr), some (.ref lv), some (.int (0 + (i : Int))), some (.ref la), y5, y6, y7, y8] ∧ Ex H2 H7 S ∧ SAt H7 S ∧ H7 la = some (.lst ws2) ∧ All (ArAt H7 C) ws2 as ∧ H7 L2 = some (.lst (((["a", "b"] : List Str).take nk).map V.str)) ∧ as.length = j ∧ ∀ a ∈ as, DAr a) ?_ ?_ ?_ ?_⟩
          · exact ⟨_, _, _, _, [], [], rfl, x5.put nL2H2, t5.put nL2S, by rw [upd_ne nL2la.symm]; exact ela5, All.nil, upd_same, rfl, fun r h => absurd h List.not_mem_nil⟩
          · rintro j σ H7 hj ⟨y5, y6, y7, y8, ws2, as, rfl, x7, t7, ela7, al7, eL7, _⟩
            exact .inl (.inl eL7)
          · rintro j x σ H7a H7 hj ⟨y5, y6, y7, y8, ws2, as, rfl, x7, t7, ela7, al7, eL7, hn, dr⟩ ⟨rfl, hx⟩
            rw [List.length_map] at hj
            rw [List.getElem?_map, List.getElem?_eq_getElem hj] at hx
            obtain rfl := Option.some.inj hx
            have hmem : ((["a", "b"] : List Str).take nk)[j] ∈ (["a", "b"] : List Str) := List.mem_of_mem_take (List.getElem_mem hj)
            have hj2 : j < 2 := by
              rw [List.length_take] at hj
              exact Nat.lt_of_lt_of_le hj (Nat.min_le_right _ _)
            generalize ((["a", "b"] : List Str).take nk)[j] = nm at hmem ⊢
            refine ⟨_, rfl, _, rfl, S, scr, ns, rfl, t7, Ex.sq sq (x2.trans x7), fun H8 v ds ts k8 t8 sh8 drs => ?_⟩
            have dl := (shLen drs).1
            refine ⟨fun σ H11 => ∃ lc ws3 cs, σ = [some (.ref S), some (.ref scr), some (.ref lv), some (.int (0 + (i : Int))), some (.ref la), some (.str nm), some v, some (.ref lc), y8] ∧ Ex H8 H11 S ∧ SAt H11 S ∧ H11 lc = some (.lst ws3) ∧ All (CkAt H11) ws3 cs ∧ cs.length ≤ 81 ∧ ∀ c ∈ cs, c.c.length ≤ 2, ?_, ?_⟩
            · refine ⟨_, rfl, v, ds, ts, rfl, sh8, drs.d, dl, fun H10 lr rows s10 elr alr => ?_⟩
              have rpos := rowsF_pos drs.d ds.length (Nat.le_refl _)
              rw [List.take_length] at rpos
              have r81 := rowsF_len drs.d dl ds.length
              rw [List.take_length] at r81
              have rrow := rowsF_row (ds := ds) ds.length (Nat.le_refl _)
              rw [List.take_length] at rrow
              have rl := alr.1
              have t10 := t8.same s10
              have nlrS : lr ≠ S := fun z => by
                obtain ⟨a, b, f⟩ := t10
                rw [z, f] at elr
                have := HO.lst.inj (Option.some.inj elr)
                obtain ⟨y, hy, e, he, _⟩ := alr.2 0 _ (List.getElem?_eq_getElem rpos)
                rw [← this] at hy
                have := Option.some.inj hy
                rw [he] at this
                cases this
              refine ⟨lr, rfl, ⟨_, .inl (.inl elr)⟩, fun lc nlc => ?_⟩
              have nlcS := t10.ne nlc
              have s11 := same_new (o := .lst []) nlc
              have nlrlc : lr ≠ lc := ne_of_none elr nlc
              refine lc_it (walk_list (xs := rows)) (fun m H11 => ∃ ws3 cs, Ex H8 H11 S ∧ SAt H11 S ∧ H11 lc = some (.lst ws3) ∧ All (CkAt H11) ws3 cs ∧ H11 lr = some (.lst rows) ∧ All (IsAt H11) rows (rowsF ds) ∧ cs.length ≤ m ∧ ∀ c ∈ cs, c.c.length ≤ 2) ?_ ?_ ?_ ?_
              · exact ⟨[], [], (Same.ex s10).same s11, t10.same s11, upd_same, All.nil, s11 _ _ elr, alr.imp fun y c h => RowAt.same h s11, Nat.zero_le _, fun c h => absurd h List.not_mem_nil⟩
              · rintro m H11 hm ⟨ws3, cs, x11, t11, elc11, al11, elr11, _⟩
                exact .inl (.inl elr11)
              · rintro m x H11a H11 hm ⟨ws3, cs, x11, t11, elc11, al11, elr11, alr11, csl, bd⟩ ⟨rfl, hx⟩
                have hm2 : m < (rowsF ds).length := by omega
                obtain ⟨e, rfl, he⟩ := alr11.at hm2 hx
                have rw2 := rrow _ (List.getElem_mem hm2)
                have wl := al11.1
                generalize (rowsF ds)[m] = row at he rw2 ⊢
                refine ⟨rfl, ?_⟩
                refine ⟨_, rfl, _, rfl, S, scr, 3, ns, rfl, by decide, by decide, t11, sq _ (x2.trans (x7.trans (k8.trans x11))), fun H12 v12 k12 t12 c0 c1 => ⟨rfl, _, rfl, ?_⟩⟩
                have k12' : Ex H11 H12 S := k12
                have kt12 := kt_ex k12' t11
                have elc12 := k12 _ _ elc11 nlcS
                have elr12 := k12 _ _ elr11 nlrS
                have al12 : All (CkAt H12) ws3 cs := al11.imp fun y c h => h.kt kt12
                have alr12 : All (IsAt H12) rows (rowsF ds) := alr11.imp fun y c h => RowAt.kt h kt12
                have x12 : Ex H8 H12 S := x11.trans k12'
                rw [int_eq]
                by_cases ev : v12 = 1
                · refine iteB (decide_eq_true ev) ?_
                  have he12 := kt12 _ _ he (fun _ z => nomatch z)
                  refine ⟨_, rfl, (by show 3 ≤ sizeLine; decide), fun t nt => ?_⟩
                  have s16 := same_new (o := .tup [.ref e, .int 5, .int 6]) nt
                  have elc16 := s16 _ _ elc12
                  have kt17 : Kt H12 (upd (upd H12 t (.tup [.ref e, .int 5, .int 6])) lc (.lst (ws3 ++ [.ref t]))) := (kt_same s16).trans (kt_upd elc16)
                  refine ⟨ws3, elc16, small1000 (by omega), ws3 ++ [.ref t], cs ++ [⟨row, 5, 6⟩], (x12.same s16).put (s10.free nlc), (t12.same s16).put nlcS, upd_same, ?_, ?_, ?_, ?_, ?_⟩
                  · refine All.push (al12.imp fun y c h => h.kt kt17) ⟨t, e, rfl, ?_, kt17 _ _ he12 (fun _ z => nomatch z)⟩
                    exact kt_upd elc16 _ _ upd_same (fun _ z => nomatch z)
                  · rw [upd_ne nlrlc]
                    exact s16 _ _ elr12
                  · exact alr12.imp fun y c h => RowAt.kt h kt17
                  · rw [List.length_append]
                    exact Nat.succ_le_succ csl
                  · intro c hc
                    rcases List.mem_append.mp hc with z | z
                    · exact bd c z
                    · rw [List.mem_singleton.mp z]
                      exact Nat.le_trans rw2 dl
                · exact iteBF (decide_eq_false ev) ⟨ws3, cs, x12, t12, elc12, al12, elr12, alr12, Nat.le_succ_of_le csl, bd⟩
              · rintro H11 ⟨ws3, cs, x11, t11, elc11, al11, elr11, alr11, csl, bd⟩
                exact ⟨lc, ws3, cs, rfl, x11, t11, elc11, al11, by omega, bd⟩
            rintro σ H11 ⟨lc, ws3, cs, rfl, x11, t11, elc11, al11, csl, bd⟩
            have x711 : Ex H7 H11 S := Ex.trans k8 x11
            have ela11 := x711 _ _ ela7 nlaS
            have wl2 := al7.1
            refine ⟨_, rfl, .inl ⟨rfl, _, .inl (.inl ela11)⟩, _, rfl, _, rfl, _, rfl, lc, ws3, rfl, .inl ⟨.inl (.inl elc11), fun tc ntc => ⟨(by show 3 ≤ sizeLine; decide), fun t nt => ?_⟩⟩⟩
            have s12 := same_new (o := .tup ws3) ntc
            have s13 := same_new (o := .tup [.str nm, v, .ref tc]) nt
            have s1 := s12.trans s13
            have ela13 := s1 _ _ ela11
            have kt711 := kt_ex x711 t7
            have kt811 := kt_ex x11 t8
            have ku := kt_upd (ys := ws2 ++ [.ref t]) ela13
            have kt14 := (kt_same s1).trans ku
            refine ⟨la, ws2, .ref t, rfl, rfl, ela13, small1000 (by omega), _, _, _, _, ws2 ++ [.ref t], as ++ [⟨nm, ds, ts, cs⟩], rfl, ?_, ?_, upd_same, ?_, ?_, ?_, ?_⟩
            · exact ((x7.trans x711).same s1).put nla
            · exact (t11.same s1).put nlaS
            · refine All.push (al7.imp fun y c h => h.kt (kt711.trans kt14)) ⟨t, v, .ref tc, rfl, ku _ _ upd_same (fun _ z => nomatch z), sh8.kt (kt811.trans kt14), tc, ws3, rfl, ku _ _ (s13 _ _ upd_same) (fun _ z => nomatch z), al11.imp fun y c h => h.kt kt14⟩
            · rw [upd_ne nL2la]
              exact s1 _ _ (x711 _ _ eL7 nL2S)
            · rw [List.length_append, hn]
              rfl
            · intro r hr
              rcases List.mem_append.mp hr with z | z
              · exact dr r z
              · rw [List.mem_singleton.mp z]
                exact ⟨hmem, drs, csl, bd⟩
          · rintro σ H7 ⟨y5, y6, y7, y8, ws2, as, rfl, x7, t7, ela7, al7, eL7, hn, dr⟩
            rw [List.length_map, List.length_take] at hn
            exact ⟨_, _, _, _, ws2, as, rfl, x7, t7, ela7, al7, by rw [hn]; exact Nat.min_le_right _ _, dr⟩
        rintro σ H7 ⟨y5', y6', y7', y8', ws2, as, rfl, x7, t7, ela7, al7, asl, dra⟩
        have elv7 := x7 _ _ elv nlvS
        have wl := al.1
        refine ⟨_, rfl, .inl ⟨rfl, _, .inl (.inl elv7)⟩, _, rfl, _, _, rfl, rfl, .inl ⟨by decide, by decide⟩, _, _, rfl, rfl, _, rfl, la, ws2, rfl, .inl ⟨.inl (.inl ela7), fun ta nta => ⟨(by show 2 ≤ sizeLine; decide), fun t nt => ?_⟩⟩⟩
        have s12 := same_new (o := .tup ws2) nta
        have s13 := same_new (o := .tup [.int (2 * (0 + (i : Int)) + 1), .ref ta]) nt
        have s1 := s12.trans s13
        have elv13 := s1 _ _ elv7
        have kt7 := kt_ex x7 t2
        have ku := kt_upd (ys := ws ++ [.ref t]) elv13
        have kt14 := (kt_same s1).trans ku
        refine ⟨lv, ws, .ref t, rfl, rfl, elv13, small1000 (by omega), _, _, _, _, _, _, ws ++ [.ref t], rs ++ [⟨2 * (0 + (i : Int)) + 1, as⟩], rfl, ?_, ?_, upd_same, ?_, by rw [List.length_append, hlen]; rfl, ?_⟩
        · exact ((x2.trans x7).same s1).put nlv
        · exact (t7.same s1).put nlvS
        · exact All.push (al.imp fun y c h => h.kt (kt7.trans kt14)) ⟨t, .ref ta, rfl, ku _ _ upd_same (fun _ z => nomatch z), ta, ws2, rfl, ku _ _ (s13 _ _ upd_same) (fun _ z => nomatch z), al7.imp fun y c h => h.kt kt14⟩
        · intro r hr
          rcases List.mem_append.mp hr with z | z
          · exact hrs r z
          · rw [List.mem_singleton.mp z]
            exact ⟨asl, dra⟩
      · rintro σ H2 ⟨y3, y4, y5, y6, y7, y8, ws, rs, rfl, x2, t2, elv, al, hlen, hrs⟩
        exact ⟨_, _, _, _, _, _, ws, rs, rfl, x2, t2, elv, al, ⟨by omega, hrs⟩⟩
    rintro σ H2 ⟨y3, y4, y5, y6, y7, y8, ws, rs, rfl, x2, t2, elv, al, dro⟩
    refine ⟨_, rfl, lv, ws, rfl, .inl ⟨.inl (.inl elv), fun tv ntv => ?_⟩⟩
    intro a dxa na ndxa nae
    refine ⟨a, dxa, _, _, _, rfl, upd_same, fun H5 x5 e5 => ⟨rfl, ?_⟩⟩
    have s5 : Same H2 H5 := (same_new ntv).trans (mk_same na ndxa x5)
    refine q H5 _ rs (x2.same s5) (t2.same s5) ⟨a, dxa, .ref tv, rfl, e5, tv, ws, rfl, ?_, al.imp fun y c h => h.same s5⟩ dro
    exact mk_same na ndxa x5 _ _ upd_same
end
end K2

namespace K2
open PySem L2
structure IsiC (K : PySem.W.Frag) (C fE : Addr) : Prop where
  eq : PySem.W.findIn K (.ref C) "__eq__" = some (some (.ref fE))
  ef : PySem.W.isFn K (.ref fE) = true
  n1 : PySem.W.notFirst K C (.ref C) = true
  n2 : PySem.W.notFirst K C (.type "tuple") = true
  ha : PySem.W.findIn K (.ref C) "__class__" = some (some (.builtin "object.__class__"))
  hn : PySem.W.specialIn K (.builtin "object.__class__") "__get__" = some (some (.builtin "getset_descriptor.__get__"))
  htk : PySem.W.takesIn K (.builtin "object.__class__") = some true
  hm : PySem.W.mroIn K C (.type "object") = some true
  k1 : PySem.W.kitOne K (.ref C) (.ref C) = some true
  k2 : PySem.W.kitOne K (.type "tuple") (.ref C) = some false
/-! ### equal item by item -/
theorem eqV_refl {x : V} (h : flatV x = true) : eqV x x = true := by
  cases x <;> first | rfl | cases h | skip
  all_goals first | exact beq_self_eq_true _ | exact decide_eq_true rfl
theorem dflat {x : V} {H : Hp} (h : flatV x = true) : DFlat x x H := ⟨h, h, eqV_refl h⟩
theorem prs_self {D : Eqv} {H : Hp} : ∀ {xs : List V}, (∀ x ∈ xs, D x x H) → Prs D xs xs H := fun {xs} h => ⟨rfl, fun i x y e1 e2 => by
  rw [e1] at e2
  obtain rfl := Option.some.inj e2
  exact h _ (List.mem_of_getElem? e1)⟩
theorem prs_all {α : Type} {R S : V → α → Prop} {D : Eqv} {H : Hp} {xs ys : List V} {l : List α} (a : All R xs l) (b : All S ys l) (h : ∀ x y c, R x c → S y c → D x y H) : Prs D xs ys H :=
  ⟨a.1.trans b.1.symm, fun i x y e1 e2 => by
    have hi : i < l.length := by
      rw [← a.1]
      exact (List.getElem?_eq_some_iff.mp e1).1
    exact h _ _ _ (a.at hi e1) (b.at hi e2)⟩
theorem dtup_all {α : Type} {K : PySem.W.Frag} {R S : V → α → Prop} {D : Eqv} {H : Hp} {x y : V} {l : List α} (a : TupAt H R x l) (b : TupAt H S y l) (h : ∀ x y c, R x c → S y c → D x y H) : DTup K D x y H := by
  obtain ⟨p, xs, rfl, h1, h2⟩ := a
  obtain ⟨q, ys, rfl, h3, h4⟩ := b
  exact ⟨p, q, xs, ys, rfl, rfl, SqT.of h1, SqT.of h3, prs_all h2 h4 h⟩
theorem dtup_row {K : PySem.W.Frag} {H : Hp} {x y : V} {r : List V} (a : RowAt H r x) (b : RowAt H r y) (h : ∀ z ∈ r, flatV z = true) : DTup K DFlat x y H := by
  obtain ⟨p, rfl, h1⟩ := a
  obtain ⟨q, rfl, h2⟩ := b
  exact ⟨p, q, r, r, rfl, rfl, SqT.of h1, SqT.of h2, prs_self fun z hz => dflat (h z hz)⟩
theorem flatD (d : D) : ∀ z ∈ d.v, flatV z = true := fun z hz => by
  unfold D.v at hz
  simp only [List.mem_cons, List.not_mem_nil, or_false] at hz
  rcases hz with rfl | rfl | rfl | rfl <;> rfl
theorem flatT (d : T) : ∀ z ∈ d.v, flatV z = true := fun z hz => by
  unfold T.v at hz
  simp only [List.mem_cons, List.not_mem_nil, or_false] at hz
  rcases hz with rfl | rfl <;> rfl
def RSh (C : Addr) (a b : Addr) (H : Hp) : Prop := ∃ ds ts, ShAt H C (.ref a) ds ts ∧ ShAt H C (.ref b) ds ts
theorem mon_RSh {C : Addr} : ∀ a b H H', Ext H H' → RSh C a b H → RSh C a b H' := fun _ _ _ _ e ⟨ds, ts, h1, h2⟩ => ⟨ds, ts, h1.same e, h2.same e⟩
/-! ### the levels of a root -/
abbrev L1 (K : PySem.W.Frag) : Eqv := fun x y H => DFlat x y H ∨ DTup K DFlat x y H
abbrev L2' (K : PySem.W.Frag) : Eqv := DTup K (L1 K)
abbrev L3 (K : PySem.W.Frag) : Eqv := DTup K (L2' K)
abbrev L4 (K : PySem.W.Frag) (C : Addr) : Eqv := fun x y H => DFlat x y H ∨ (L3 K x y H ∨ DIns C (RSh C) x y H)
abbrev L5 (K : PySem.W.Frag) (C : Addr) : Eqv := DTup K (L4 K C)
abbrev L6 (K : PySem.W.Frag) (C : Addr) : Eqv := fun x y H => DFlat x y H ∨ DTup K (L5 K C) x y H
abbrev L7 (K : PySem.W.Frag) (C : Addr) : Eqv := DTup K (L6 K C)
theorem m1 {K : PySem.W.Frag} : Mon (L1 K) := mon_flat.or (mon_tup mon_flat)
theorem m2 {K : PySem.W.Frag} : Mon (L2' K) := mon_tup m1
theorem m4 {K : PySem.W.Frag} {C : Addr} : Mon (L4 K C) := mon_flat.or ((mon_tup m2).or (mon_ins mon_RSh))
theorem m6 {K : PySem.W.Frag} {C : Addr} : Mon (L6 K C) := mon_flat.or (mon_tup (mon_tup m4))
theorem m7 {K : PySem.W.Frag} {C : Addr} : Mon (L7 K C) := mon_tup m6
theorem eqL7 {X : Cx} {C : Addr} (h : EqG X 3 (DIns C (RSh C))) : EqG X 6 (L7 X.K C) := by
  have e1 : EqG X 1 (L1 X.K) := (eqG_flat.mono (by decide)).or (eqG_tup mon_flat eqG_flat)
  have e3 : EqG X 3 (L3 X.K) := eqG_tup m2 (eqG_tup m1 e1)
  have e4 : EqG X 3 (L4 X.K C) := (eqG_flat.mono (by decide)).or (e3.or h)
  have e6 : EqG X 5 (L6 X.K C) := (eqG_flat.mono (by decide)).or (eqG_tup (mon_tup m4) (eqG_tup m4 e4))
  exact eqG_tup m6 e6
theorem ck_eq {K : PySem.W.Frag} {H : Hp} {x y : V} {c : Ck} (a : CkAt H x c) (b : CkAt H y c) : L2' K x y H := by
  obtain ⟨p, u, rfl, h1, h2⟩ := a
  obtain ⟨q, v, rfl, h3, h4⟩ := b
  refine ⟨p, q, _, _, rfl, rfl, SqT.of h1, SqT.of h3, Prs.cons (.inr ?_) (Prs.cons (.inl (dflat rfl)) (Prs.cons (.inl (dflat rfl)) Prs.nil))⟩
  exact dtup_row ⟨u, rfl, h2⟩ ⟨v, rfl, h4⟩ fun z hz => by
    obtain ⟨i, _, rfl⟩ := List.mem_map.mp hz
    rfl
theorem sh_eq {C : Addr} {H : Hp} {x y : V} {ds : List D} {ts : List T} (a : ShAt H C x ds ts) (b : ShAt H C y ds ts) : DIns C (RSh C) x y H := by
  have a0 := a
  have b0 := b
  obtain ⟨p, dp, _, _, rfl, h1, _⟩ := a
  obtain ⟨q, dq, _, _, rfl, h2, _⟩ := b
  exact ⟨p, q, dp, dq, _, _, rfl, rfl, h1, h2, ds, ts, a0, b0⟩
theorem ar_eq {K : PySem.W.Frag} {C : Addr} {H : Hp} {x y : V} {c : Ar} (a : ArAt H C x c) (b : ArAt H C y c) : L5 K C x y H := by
  obtain ⟨p, u, v, rfl, h1, h2, h3⟩ := a
  obtain ⟨q, u', v', rfl, h4, h5, h6⟩ := b
  exact ⟨p, q, _, _, rfl, rfl, SqT.of h1, SqT.of h4, Prs.cons (.inl (dflat rfl)) (Prs.cons (.inr (.inr (sh_eq h2 h5))) (Prs.cons (.inr (.inl (dtup_all h3 h6 fun _ _ _ => ck_eq))) Prs.nil))⟩
theorem ve_eq {K : PySem.W.Frag} {C : Addr} {H : Hp} {x y : V} {c : Ve} (a : VeAt H C x c) (b : VeAt H C y c) : L7 K C x y H := by
  obtain ⟨p, u, rfl, h1, h2⟩ := a
  obtain ⟨q, v, rfl, h3, h4⟩ := b
  exact ⟨p, q, _, _, rfl, rfl, SqT.of h1, SqT.of h3, Prs.cons (.inl (dflat rfl)) (Prs.cons (.inr (dtup_all h2 h4 fun _ _ _ => ar_eq)) Prs.nil)⟩
section
variable {P : Program} {w : World} {K : PySem.W.Frag} {mg : Str → Option Value} {base : Heap}
theorem scShEq : FnScope ["self", "other"] ["self", "other"] (defScope sShEq) := ⟨rfl, rfl, rfl, by decide +kernel, rfl, by decide +kernel, by decide +kernel⟩
theorem ok_shEq {f fI C : Addr} {fd : FuncData} (F : Fun K "__eq__" "Shape.__eq__" sShEq f fd) (M : Nm mg) (S : KC K C fI SHf) (I : IsiC K C f) (gC : mg "Shape" = some (.ref C)) : FnOk P w K mg base CX0 3 f fd ["self", "other"] (spEq (RSh C)) := by
  refine F.ok scShEq (fun vs H Q E h => ?_) (fun cdv A outer s H vs Q E hr h => ?_)
  · obtain ⟨a, b, rfl, _⟩ := h
    rfl
  · obtain ⟨a, b, rfl, ⟨ds, ts, ⟨a0, dx, u, v, ea, ha, h1, h2⟩, ⟨b0, dy, u', v', eb, hb, h3, h4⟩⟩, q⟩ := h
    obtain rfl := V.ref.inj ea
    obtain rfl := V.ref.inj eb
    refine ⟨_, pss_one (ps_ret (pe_and (pe_callB call_isi (by rfl) M.isinstance (by decide +kernel) (pa_cons (pv 1) (pa_cons (pe_glob (v := .ref C) (by rfl) gC rfl) pa_nil)))
      (pe_and (pe_cmpR (op_eqG (rcG_tup (mon_tup mon_flat) (eqG_tup mon_flat eqG_flat)) hr) (pe_fld (pv 0) rfl) (pe_fld (pv 1) rfl) (nomark _)) (pe_one (pe_cmpR (op_eqG (rcG_tup (mon_tup mon_flat) (eqG_tup mon_flat eqG_flat)) hr) (pe_fld (pv 0) rfl) (pe_fld (pv 1) rfl) (nomark _)))))), ?_⟩
    have nD : NoAttr K C "dims" := S.na _ (by decide +kernel)
    have nA : NoAttr K C "attrs" := S.na _ (by decide +kernel)
    refine ⟨_, rfl, _, .ref C, .ref C, .ref C, true, rfl, .own C, .base (.ins hb S.cl I.ha I.hn I.htk I.hm), I.k1, true, rfl, iteT ?_⟩
    refine ⟨_, rfl, a, C, dx, _, u, rfl, ha, S.cl, nD, rfl, _, rfl, b, C, dy, _, u', rfl, hb, S.cl, nD, rfl, dtup_all h1 h3 fun _ _ d z1 z2 => dtup_row z1 z2 (flatD d), fun H1 e1 => ⟨true, rfl, iteT ?_⟩⟩
    refine ⟨_, rfl, a, C, dx, _, v, rfl, e1 _ _ ha, S.cl, nA, rfl, _, rfl, b, C, dy, _, v', rfl, e1 _ _ hb, S.cl, nA, rfl, mon_tup (mon_tup mon_flat) _ _ _ _ e1 (dtup_all h2 h4 fun _ _ d z1 z2 => dtup_row z1 z2 (flatT d)), fun H2 e2 => q H2 (e1.trans e2)⟩
def spREq (K : PySem.W.Frag) (CR C : Addr) : Sp := fun vs H Q _ => ∃ (a b dx : Addr) (up da : Int) (u : V) (rs : List Ve), vs = [.ref a, .ref b] ∧ H a = some (.ins CR dx [("upcoming", .int up), ("data", .int da), ("versions", u)]) ∧ TupAt H (VeAt H C) u rs ∧
  ((∃ dy da' u', H b = some (.ins CR dy [("upcoming", .int up), ("data", .int da'), ("versions", u')]) ∧ TupAt H (VeAt H C) u' rs ∧ (da ≠ da' → Q (.bl false) H) ∧ (da = da' → ∀ H', Ext H H' → Q (.bl true) H')) ∨ ∃ xs, H b = some (.tup xs) ∧ Q (.bl false) H)
theorem scREq : FnScope ["self", "other"] ["self", "other"] (defScope sRootEq) := ⟨rfl, rfl, rfl, by decide +kernel, rfl, by decide +kernel, by decide +kernel⟩
theorem ok_req {f fI fS CR C : Addr} {fd fdS : FuncData} (F : Fun K "__eq__" "Root.__eq__" sRootEq f fd) (M : Nm mg) (R : KC K CR fI RHf) (I : IsiC K CR f) (gR : mg "Root" = some (.ref CR)) (J : IsiC K C fS)
    (GS : FnOk P w K mg base CX0 3 fS fdS ["self", "other"] (spEq (RSh C))) (bS : Binds K fdS ["self", "other"] []) : FnOk P w K mg base CX0 8 f fd ["self", "other"] (spREq K CR C) := by
  refine F.ok scREq (fun vs H Q E h => ?_) (fun cdv A outer s H vs Q E hr h => ?_)
  · obtain ⟨a, b, dx, up, da, u, rs, rfl, _⟩ := h
    rfl
  · obtain ⟨a, b, dx, up, da, u, rs, rfl, ha, hu, q⟩ := h
    refine ⟨_, pss_one (ps_ret (pe_and (pe_callB call_isi (by rfl) M.isinstance (by decide +kernel) (pa_cons (pv 1) (pa_cons (pe_glob (v := .ref CR) (by rfl) gR rfl) pa_nil)))
      (pe_and (pe_cmpR op_eq (pe_fld (pv 0) rfl) (pe_fld (pv 1) rfl) (nomark _)) (pe_and (pe_cmpR op_eq (pe_fld (pv 0) rfl) (pe_fld (pv 1) rfl) (nomark _)) (pe_one (pe_cmpR (op_eqG (rcG_tup m7 (eqL7 (eqG_ins GS J.eq J.ef bS pass0))) hr) (pe_fld (pv 0) rfl) (pe_fld (pv 1) rfl) (nomark _))))))), ?_⟩
    have n1 : NoAttr K CR "upcoming" := R.na _ (by decide +kernel)
    have n2 : NoAttr K CR "data" := R.na _ (by decide +kernel)
    have n3 : NoAttr K CR "versions" := R.na _ (by decide +kernel)
    rcases q with ⟨dy, da', u', hb, hu', q1, q2⟩ | ⟨xs, hb, q⟩
    · refine ⟨_, rfl, _, .ref CR, .ref CR, .ref CR, true, rfl, .own CR, .base (.ins hb R.cl I.ha I.hn I.htk I.hm), I.k1, true, rfl, iteT ?_⟩
      refine ⟨_, rfl, a, CR, dx, _, _, rfl, ha, R.cl, n1, rfl, _, rfl, b, CR, dy, _, _, rfl, hb, R.cl, n1, rfl, rfl, _, rfl, ?_⟩
      refine iteB (decide_eq_true rfl) ⟨_, rfl, a, CR, dx, _, _, rfl, ha, R.cl, n2, rfl, _, rfl, b, CR, dy, _, _, rfl, hb, R.cl, n2, rfl, rfl, _, rfl, ?_⟩
      by_cases e : da = da'
      · subst e
        exact iteB (decide_eq_true rfl) ⟨_, rfl, a, CR, dx, _, u, rfl, ha, R.cl, n3, rfl, _, rfl, b, CR, dy, _, u', rfl, hb, R.cl, n3, rfl, dtup_all hu hu' fun _ _ _ => ve_eq, q2 rfl⟩
      · have z : decide (V.int da = V.int da') = false := decide_eq_false fun z => e (V.int.inj z)
        rw [z]
        exact iteF (q1 e)
    · exact ⟨_, rfl, _, .ref CR, .type "tuple", .ref CR, false, rfl, .own CR, .base (.tup hb), I.k2, false, rfl, iteF q⟩
end
end K2

namespace K2
open PySem L2
def Ov (o : Int) : Prop := 0 ≤ o ∧ o ≤ 255
def NM6 : List Str := ["a", "b", "x", "y", "v", "w"]
theorem nm6 : ∀ z ∈ NM6, z.length ≤ 2 ∧ (∀ o ∈ wn z, 0 ≤ o ∧ o ≤ 255) ∧ (wn z).length ≤ 3 := by decide +kernel
theorem w4_o (n : Int) : ∀ o ∈ w4 n, Ov o := by
  intro o ho
  unfold w4 at ho
  simp only [List.mem_cons, List.not_mem_nil, or_false] at ho
  unfold Ov
  rcases ho with rfl | rfl | rfl | rfl <;> omega
theorem w4_l (n : Int) : (w4 n).length = 4 := rfl
theorem fm_o {α : Type} {f : α → List Int} {l : List α} (h : ∀ x ∈ l, ∀ o ∈ f x, Ov o) : ∀ o ∈ l.flatMap f, Ov o := fun o ho => by
  obtain ⟨x, hx, h2⟩ := List.mem_flatMap.mp ho
  exact h x hx o h2
theorem fm_l {α : Type} (f : α → List Int) (b : Nat) : ∀ (l : List α), (∀ x ∈ l, (f x).length ≤ b) → (l.flatMap f).length ≤ l.length * b
  | [], _ => by simp
  | x :: l, h => by
    rw [List.flatMap_cons, List.length_append, List.length_cons, Nat.succ_mul]
    have h1 := h x List.mem_cons_self
    have h2 := fm_l f b l fun y hy => h y (List.mem_cons_of_mem _ hy)
    omega
theorem app_o {a b : List Int} (h1 : ∀ o ∈ a, Ov o) (h2 : ∀ o ∈ b, Ov o) : ∀ o ∈ a ++ b, Ov o := fun o ho => (List.mem_append.mp ho).elim (h1 o) (h2 o)
theorem one_o {n : Int} (h : Ov n) : ∀ o ∈ [n], Ov o := fun o ho => by rw [List.mem_singleton.mp ho]; exact h
theorem dn6 {ds : List D} {ts : List T} (h : DrSh ds ts) : (∀ d ∈ ds, d.n ∈ NM6) ∧ ∀ t ∈ ts, t.n ∈ NM6 := by
  obtain ⟨i, _, _, e⟩ := h.i
  obtain ⟨j, _, _, f⟩ := h.j
  have s1 : ∀ z ∈ (["x", "y"] : List Str), z ∈ NM6 := by decide +kernel
  have s2 : ∀ z ∈ (["v", "w"] : List Str), z ∈ NM6 := by decide +kernel
  refine ⟨fun d hd => s1 _ (List.mem_of_mem_take (i := i) ?_), fun t ht => s2 _ (List.mem_of_mem_take (i := j) ?_)⟩
  · rw [← e]
    exact List.mem_map.mpr ⟨d, hd, rfl⟩
  · rw [← f]
    exact List.mem_map.mpr ⟨t, ht, rfl⟩
theorem kix_o {k : Str} (h : k ∈ KS) : Ov (kix k) := by
  obtain ⟨j, h1, _, h3⟩ := kix_at h
  have : j < KS.length := (List.getElem?_eq_some_iff.mp h1).1
  have : KS.length = 3 := by decide +kernel
  rw [h3]
  unfold Ov
  omega
theorem ar_o {r : Ar} (h : DAr r) : (∀ o ∈ eAr r, Ov o) ∧ (eAr r).length ≤ 1400 := by
  have hn : r.n ∈ NM6 := (by decide +kernel : ∀ z ∈ (["a", "b"] : List Str), z ∈ NM6) _ h.n
  obtain ⟨d6, t6⟩ := dn6 h.sh
  obtain ⟨ld, lt⟩ := shLen h.sh
  have hd : ∀ d ∈ r.ds, (∀ o ∈ eD d, Ov o) ∧ (eD d).length ≤ 15 := fun d hd => by
    obtain ⟨_, a2, a3⟩ := nm6 _ (d6 d hd)
    unfold eD
    refine ⟨app_o (app_o (app_o a2 (w4_o _)) (w4_o _)) (w4_o _), ?_⟩
    simp only [List.length_append, w4_l]
    omega
  have ht : ∀ t ∈ r.ts, (∀ o ∈ eT t, Ov o) ∧ (eT t).length ≤ 4 := fun t ht => by
    obtain ⟨_, a2, a3⟩ := nm6 _ (t6 t ht)
    unfold eT
    refine ⟨app_o a2 (one_o (kix_o (h.sh.t t ht))), ?_⟩
    rw [List.length_append]
    show _ + 1 ≤ 4
    omega
  have hc : ∀ c ∈ r.cs, (∀ o ∈ eCk c, Ov o) ∧ (eCk c).length ≤ 16 := fun c hc => by
    have cl := h.c c hc
    unfold eCk
    refine ⟨fm_o fun x _ => w4_o x, ?_⟩
    have := fm_l w4 4 (c.c ++ [c.o, c.l]) fun x _ => Nat.le_refl _
    rw [List.length_append] at this
    have e2 : [c.o, c.l].length = 2 := rfl
    omega
  have l1 := fm_l eD 15 r.ds fun d h => (hd d h).2
  have l2 := fm_l eT 4 r.ts fun d h => (ht d h).2
  have l3 := fm_l eCk 16 r.cs fun d h => (hc d h).2
  have cl := h.cl
  obtain ⟨_, a2, a3⟩ := nm6 _ hn
  unfold eAr eSh eCs
  refine ⟨app_o (app_o a2 (app_o (app_o (app_o (one_o (by unfold Ov; omega)) (fm_o fun d h => (hd d h).1)) (one_o (by unfold Ov; omega))) (fm_o fun d h => (ht d h).1))) (app_o (w4_o _) (fm_o fun d h => (hc d h).1)), ?_⟩
  simp only [List.length_append, w4_l]
  have e1 : ∀ n : Int, [n].length = 1 := fun _ => rfl
  rw [e1, e1]
  omega
theorem ro_o {rs : List Ve} (h : DRo rs) : (∀ o ∈ eRt 6 1 rs, Ov o) ∧ (eRt 6 1 rs).length ≤ 6000 ∧ GV rs := by
  have hv : ∀ r ∈ rs, (∀ o ∈ eVe r, Ov o) ∧ (eVe r).length ≤ 2900 := fun r hr => by
    obtain ⟨la, ha⟩ := h.as r hr
    have l1 := fm_l eAr 1400 r.as fun a h => (ar_o (ha a h)).2
    unfold eVe
    refine ⟨app_o (app_o (w4_o _) (w4_o _)) (fm_o fun a h => (ar_o (ha a h)).1), ?_⟩
    simp only [List.length_append, w4_l]
    omega
  have l1 := fm_l eVe 2900 rs fun r h => (hv r h).2
  have l2 := h.l
  refine ⟨?_, ?_, fun v hv r hr => ?_⟩
  · unfold eRt
    refine app_o (app_o (app_o (app_o ?_ (w4_o _)) (w4_o _)) (w4_o _)) (fm_o fun r h => (hv r h).1)
    intro o ho
    simp only [List.mem_cons, List.not_mem_nil, or_false] at ho
    unfold Ov
    rcases ho with rfl | rfl <;> omega
  · unfold eRt
    simp only [List.length_append, w4_l]
    have e2 : ([77, 83] : List Int).length = 2 := rfl
    omega
  · have g := (h.as v hv).2 r hr
    have hn : r.n ∈ NM6 := (by decide +kernel : ∀ z ∈ (["a", "b"] : List Str), z ∈ NM6) _ g.n
    obtain ⟨d6, t6⟩ := dn6 g.sh
    exact ⟨Nat.le_trans (nm6 _ hn).1 (by decide), fun d hd => ⟨Nat.le_trans (nm6 _ (d6 d hd)).1 (by decide)⟩, fun t ht => ⟨Nat.le_trans (nm6 _ (t6 t ht)).1 (by decide), g.sh.t t ht⟩⟩
/-- what is cut out of a list of ints -/
theorem cut_some (os : List Int) (a b : Option Int) : ∃ ps : List Int, cutV (os.map V.int) a b = ps.map V.int ∧ ps.length ≤ os.length ∧ ∀ o ∈ ps, o ∈ os := by
  unfold cutV
  refine ⟨(os.drop (HT.sIx (os.map V.int).length 0 a)).take (HT.sIx (os.map V.int).length (os.map V.int).length b - HT.sIx (os.map V.int).length 0 a), by rw [List.map_take, List.map_drop], ?_, fun o ho => List.mem_of_mem_drop (List.mem_of_mem_take ho)⟩
  rw [List.length_take, List.length_drop]
  omega
end K2

namespace K2
open PySem L2
theorem rcG_or {X : Cx} {n : Nat} {D D' : Eqv} (h : RcG X n D) (h' : RcG X n D') : RcG X n (fun x y H => D x y H ∨ D' x y H) := fun A pins s σ H x y u v sb I rx ry d => by
  rcases d with d | d
  · exact h A pins s σ H x y u v sb I rx ry d
  · exact h' A pins s σ H x y u v sb I rx ry d
def RRr (CR C : Addr) (a b : Addr) (H : Hp) : Prop := ∃ up da rs, RtAt H CR C (.ref a) up da rs ∧ RtAt H CR C (.ref b) up da rs
theorem atI_all {xs : List V} {v : Int} (h0 : 0 ≤ v) (h1 : v < xs.length) : ∃ x ∈ xs, atI xs v = some x := by
  obtain ⟨k, rfl⟩ : ∃ k : Nat, v = (k : Int) := ⟨v.toNat, by omega⟩
  have hk : k < xs.length := by omega
  exact ⟨xs[k], List.getElem_mem hk, atI_nat (List.getElem?_eq_getElem hk)⟩
theorem set_o {os : List Int} {j : Nat} {x : Int} (h : ∀ o ∈ os, Ov o) (hx : Ov x) : (os.map V.int).set j (.int x) = (os.set j x).map V.int ∧ ∀ o ∈ os.set j x, Ov o := by
  refine ⟨by rw [List.map_set], fun o ho => ?_⟩
  rcases List.mem_or_eq_of_mem_set ho with z | z
  · exact h o z
  · rw [z]
    exact hx
section
variable {P : Program} {w : World} {K : PySem.W.Frag} {mg : Str → Option Value} {base : Heap}
def spLaw (K : PySem.W.Frag) : Sp := fun vs H Q _ => ∃ (a : Addr) (ns : List Int), vs = [.ref a] ∧ SqL K H a (ns.map V.int) ∧ ns.length ≤ 63 ∧ ∀ H', Q (.bl true) H'
theorem scLW : FnScope ["script", "state", "octets", "summed", "turn", "at", "kind", "value", "total", "given", "found"] ["script"] (defScope sLaw) := ⟨rfl, rfl, rfl, by decide +kernel, rfl, by decide +kernel, by decide +kernel⟩
theorem ok_law {f fLR fSU fER fTO fDU fD fE fS CR C : Addr} {fd dLR dSU dER dTO dDU dD dE dS : FuncData} (F : Fun K "law" "law" sLaw f fd) (M : Nm mg)
    (GD : FnOk P w K mg base CX0 1 fD dD ["state", "script", "size"] (spDraw K)) (kD : PySem.W.keepIn K (.ref fD) = true) (bD : Binds K dD ["state", "script", "size"] []) (gD : mg "_law_draw" = some (.ref fD))
    (GLR : FnOk P w K mg base CX0 4 fLR dLR ["state", "script"] (spRo K CR C)) (kLR : PySem.W.keepIn K (.ref fLR) = true) (bLR : Binds K dLR ["state", "script"] []) (gLR : mg "_law_root" = some (.ref fLR))
    (GSU : FnOk P w K mg base CX0 1 fSU dSU ["octets"] (spSum K)) (kSU : PySem.W.keepIn K (.ref fSU) = true) (bSU : Binds K dSU ["octets"] []) (gSU : mg "sum_of" = some (.ref fSU))
    (GER : FnOk P w K mg base CX0 4 fER dER ["root"] (spER CR C)) (kER : PySem.W.keepIn K (.ref fER) = true) (bER : Binds K dER ["root"] []) (gER : mg "encode_root" = some (.ref fER))
    (GTO : FnOk P w K mg base CX0 9 fTO dTO ["octets"] (spTold CR C)) (kTO : PySem.W.keepIn K (.ref fTO) = true) (bTO : Binds K dTO ["octets"] []) (gTO : mg "_law_told" = some (.ref fTO))
    (GDU : FnOk P w K mg base CX0 6 fDU dDU ["octets"] (spTold CR C)) (kDU : PySem.W.keepIn K (.ref fDU) = true) (bDU : Binds K dDU ["octets"] []) (gDU : mg "_law_due" = some (.ref fDU))
    (I : IsiC K CR fE) (GE : FnOk P w K mg base CX0 8 fE dE ["self", "other"] (spREq K CR C)) (bE : Binds K dE ["self", "other"] []) : FnOk P w K mg base CX0 10 f fd ["script"] (spLaw K) := by
  have GEQ : FnOk P w K mg base CX0 8 fE dE ["self", "other"] (spEq (RRr CR C)) := GE.imp fun vs H Q E ⟨a, b, e, ⟨up, da, rs, ⟨a0, dx, u, ea, ha, hu⟩, ⟨b0, dy, u', eb, hb, hu'⟩⟩, q⟩ => by
    obtain rfl := V.ref.inj ea
    obtain rfl := V.ref.inj eb
    exact ⟨a, b, dx, up, da, u, rs, e, ha, hu, .inl ⟨dy, da, u', hb, hu', fun z => absurd rfl z, fun _ => q⟩⟩
  refine F.ok scLW (fun vs H Q E h => ?_) (fun cdv A outer s H vs Q E hr h => ?_)
  · obtain ⟨a, ns, rfl, _⟩ := h
    rfl
  · obtain ⟨scr, ns, rfl, hS, hlen, q0⟩ := h
    have hr1 := hr.mono (j := 1) (by decide)
    have hr4 := hr.mono (j := 4) (by decide)
    have hr6 := hr.mono (j := 6) (by decide)
    have hr8 := hr.mono (j := 8) (by decide)
    refine ⟨_, (pss_cons (ps_set (i := 1) scLW.nd rfl (.inl rfl) (pe_lst (pa_cons pe_int (pa_cons pe_int pa_nil))))
      (pss_cons (ps_set (i := 2) scLW.nd rfl (.inl rfl) (pe_call GER hr4 (by rfl) gER kER bER .nil pass0 (pa_cons (pe_call GLR hr4 (by rfl) gLR kLR bLR .nil pass0 (pa_cons (pv 1) (pa_cons (pv 0) pa_nil))) pa_nil)))
      (pss_cons (ps_set (i := 3) scLW.nd rfl (.inl rfl) (pe_cmpR op_eq (pe_call GD hr1 (by rfl) gD kD bD .nil pass0 (pa_cons (pv 1) (pa_cons (pv 0) (pa_cons pe_int pa_nil)))) pe_int (nomark _)))
      (Evl.pss_cut (ps_if (pt_val (pv 3)) (pss_one (ps_set (i := 2) scLW.nd rfl (.inl rfl) (pe_slice sl_list (pv 2) po_none (po_some (pe_un un_neg pe_int))))) pss_nil)
      (Evl.pss_cut (ps_for PassesOwn.never rfl (pi_range1 (by rfl) M.range (pa_cons (pe_call GD hr1 (by rfl) gD kD bD .nil pass0 (pa_cons (pv 1) (pa_cons (pv 0) (pa_cons pe_int pa_nil)))) pa_nil)) (pg_name (i := 4) scLW.nd rfl (.inl rfl)) (pss_cons (ps_set (i := 5) scLW.nd rfl (.inl rfl) (pe_call GD hr1 (by rfl) gD kD bD .nil pass0 (pa_cons (pv 1) (pa_cons (pv 0) (pa_cons (pe_op op_add (pe_callB call_len_seq (by rfl) M.len PySem.boot_len (pa_cons (pv 2) pa_nil)) pe_int) pa_nil)))))
      (pss_cons (ps_set (i := 6) scLW.nd rfl (.inl rfl) (pe_call GD hr1 (by rfl) gD kD bD .nil pass0 (pa_cons (pv 1) (pa_cons (pv 0) (pa_cons pe_int pa_nil)))))
      (pss_cons (ps_set (i := 7) scLW.nd rfl (.inl rfl) (pe_ix ix_list (pe_lst (pa_cons pe_int (pa_cons pe_int (pa_cons pe_int (pa_cons pe_int (pa_cons pe_int (pa_cons pe_int (pa_cons (pe_call GD hr1 (by rfl) gD kD bD .nil pass0 (pa_cons (pv 1) (pa_cons (pv 0) (pa_cons pe_int pa_nil)))) pa_nil)))))))) (pe_call GD hr1 (by rfl) gD kD bD .nil pass0 (pa_cons (pv 1) (pa_cons (pv 0) (pa_cons pe_int pa_nil)))) (fun _ _ => rfl)))
      (pss_one (ps_if (PW.pt (pw_and (pt_cmpR op_lt (pv 6) pe_int (nomark _)) (pw_and1 (pt_cmpR op_lt (pv 5) (pe_callB call_len_seq (by rfl) M.len PySem.boot_len (pa_cons (pv 2) pa_nil)) (nomark _))))) (pss_one (ps_asg (pv 7) (pg_sub (pv 2) (pv 5) set_list))) (pss_one (ps_if (pt_cmpR op_eq (pv 6) pe_int (nomark _)) (pss_one (ps_set (i := 2) scLW.nd rfl (.inl rfl) (pe_op op_cat (pe_slice sl_list (pv 2) po_none (po_some (pv 5))) (pe_slice sl_list (pv 2) (po_some (pe_op op_add (pv 5) pe_int)) po_none)))) (pss_one (ps_if (pt_cmpR op_eq (pv 6) pe_int (nomark _)) (pss_one (ps_set (i := 2) scLW.nd rfl (.inl rfl) (pe_op op_cat (pe_op op_cat (pe_slice sl_list (pv 2) po_none (po_some (pv 5))) (pe_lst (pa_cons (pv 7) pa_nil))) (pe_slice sl_list (pv 2) (po_some (pv 5)) po_none)))) (pss_one (ps_if (pt_cmpR op_eq (pv 6) pe_int (nomark _)) (pss_one (ps_set (i := 2) scLW.nd rfl (.inl rfl) (pe_slice sl_list (pv 2) po_none (po_some (pv 5))))) pss_nil))))))))))))
      (Evl.pss_cut (ps_if (pt_val (pv 3)) (pss_cons (ps_set (i := 8) scLW.nd rfl (.inl rfl) (pe_call GSU hr1 (by rfl) gSU kSU bSU .nil pass0 (pa_cons (pv 2) pa_nil)))
      (pss_one (ps_set (i := 2) scLW.nd rfl (.inl rfl) (pe_op op_cat (pv 2) (pe_lst (pa_cons (pe_op op_mod (pe_op op_fdiv (pv 8) pe_int) pe_int) (pa_cons (pe_op op_mod (pe_op op_fdiv (pv 8) pe_int) pe_int) (pa_cons (pe_op op_mod (pe_op op_fdiv (pv 8) pe_int) pe_int) (pa_cons (pe_op op_mod (pv 8) pe_int) pa_nil))))))))) pss_nil)
      (pss_cons (ps_set (i := 9) scLW.nd rfl (.inl rfl) (pe_callTy call_list_of (by rfl) M.list (by decide +kernel) (pa_cons (pv 2) pa_nil)))
      (pss_cons (ps_set (i := 10) scLW.nd rfl (.inl rfl) (pe_call GTO hr (by rfl) gTO kTO bTO .nil pass0 (pa_cons (pv 9) pa_nil)))
      (pss_one (ps_ret (pe_and (pe_cmpR (op_eqG (rcG_or (rcG_tup mon_flat (eqG_flat.mono (by decide : 0 ≤ 7))) (rcG_ins GEQ I.eq I.ef bE pass0)) hr8) (pv 10) (pe_call GDU hr6 (by rfl) gDU kDU bDU .nil pass0 (pa_cons (pv 2) pa_nil)) (nomark _)) (pe_one (pe_cmpR (op_eqD hr.units) (pv 9) (pv 2) (nomark _)))))))))))))), ?_⟩
    refine ⟨(by show 2 ≤ sizeLine; decide), fun S nS => ?_⟩
    have s0 := same_new (o := .lst [.int 0, .int 0]) nS
    have sq0 : ∀ {H' : Hp}, Same H H' → SqL K H' scr (ns.map V.int) := fun x => SqL.keepS hS fun o e => x _ _ e
    have toS : ∀ {H1 H2 : Hp}, Same H H1 → Ex H1 H2 S → Same H H2 := fun s x c o e => x _ _ (s _ _ e) (ne_of_none e nS)
    refine ⟨_, rfl, _, rfl, S, scr, ns, rfl, ⟨0, 0, upd_same⟩, fun H1 x => sq0 (toS s0 x), fun H2 v rs x2 t2 rt2 dr => ?_⟩
    have s2 := toS s0 x2
    obtain ⟨ov, ol, gv⟩ := ro_o dr
    refine ⟨v, 6, 1, rs, rfl, rt2, gv, by omega, fun H3 p s3 np ep => ?_⟩
    obtain ⟨os, hos⟩ : ∃ os, os = eRt 6 1 rs ++ w4 (sumO (eRt 6 1 rs)) := ⟨_, rfl⟩
    rw [← hos] at ep
    have o3 : ∀ o ∈ os, Ov o := by rw [hos]; exact app_o ov (w4_o _)
    have l3 : os.length ≤ 7000 := by rw [hos, List.length_append, w4_l]; omega
    have s03 := s2.trans s3
    have t3 := t2.same s3
    have npS := t2.ne np
    have npH : H p = none := s2.free np
    have idS : ∀ {H1 H2 : Hp} {p : Addr} {xs : List V}, H1 p = some (.lst xs) → Ex H1 H2 S → p ≠ S → H2 p = some (.lst xs) := fun e x n => x _ _ e n
    refine ⟨_, rfl, _, rfl, S, scr, 2, ns, rfl, by decide, by decide, t3, sq0 s03, fun H4 v4 k4 t4 a0 a1 => ⟨rfl, ?_⟩⟩
    have k4 : Ex H3 H4 S := k4
    have s04 := toS s03 k4
    have ep4 := idS ep k4 npS
    generalize decide (V.int v4 = V.int 1) = sm
    refine ⟨fun σ H5 => ∃ (p : Addr) (os : List Int), σ = [some (.ref scr), some (.ref S), some (.ref p), some (.bl sm), none, none, none, none, none, none, none] ∧ Same H H5 ∧ SAt H5 S ∧ H5 p = some (.lst (os.map V.int)) ∧ p ≠ S ∧ H p = none ∧ (∀ o ∈ os, Ov o) ∧ os.length ≤ 7000, ?_, ?_⟩
    · refine ⟨_, rfl, sm, rfl, ?_⟩
      cases sm with
      | false => exact iteF ⟨p, os, rfl, s04, t4, ep4, npS, npH, o3, l3⟩
      | true =>
        refine iteT ⟨_, rfl, 4, rfl, _, rfl, p, _, rfl, .inl (.inl ep4), fun p2 np2 => ?_⟩
        obtain ⟨ps, e1, e2, e3⟩ := cut_some os none (some (-4))
        have e1 : cutV (os.map V.int) none (some (-(4 : Int))) = ps.map V.int := e1
        rw [e1]
        have s5 := same_new (o := .lst (ps.map V.int)) np2
        exact ⟨p2, ps, rfl, s04.trans s5, t4.same s5, upd_same, t4.ne np2, s04.free np2, fun o ho => o3 o (e3 o ho), by omega⟩
    rintro σ H5 ⟨p, os, rfl, s05, t5, ep5, npS, npH, o5, l5⟩
    refine ⟨fun σ H6 => ∃ (y4 y5 y6 y7 : Option V) (p : Addr) (os : List Int), σ = [some (.ref scr), some (.ref S), some (.ref p), some (.bl sm), y4, y5, y6, y7, none, none, none] ∧ Same H H6 ∧ SAt H6 S ∧ H6 p = some (.lst (os.map V.int)) ∧ p ≠ S ∧ H p = none ∧ (∀ o ∈ os, Ov o) ∧ os.length ≤ 56010, ?_, ?_⟩
    · refine ⟨_, rfl, _, rfl, S, scr, 4, ns, rfl, by decide, by decide, t5, sq0 s05, fun H6 v6 k6 t6 a0 a1 => ?_⟩
      have k6 : Ex H5 H6 S := k6
      refine ⟨v6, rfl, by omega, by omega, for_range (lo := 0) (n := v6.toNat) (fun i σ H7 => ∃ (y4 y5 y6 y7 : Option V) (p : Addr) (os : List Int), σ = [some (.ref scr), some (.ref S), some (.ref p), some (.bl sm), y4, y5, y6, y7, none, none, none] ∧ Same H H7 ∧ SAt H7 S ∧ H7 p = some (.lst (os.map V.int)) ∧ p ≠ S ∧ H p = none ∧ (∀ o ∈ os, Ov o) ∧ os.length + 1 ≤ 7001 * 2 ^ i) ?_ ?_ ?_⟩
      · exact ⟨_, _, _, _, p, os, rfl, toS s05 k6, t6, idS ep5 k6 npS, npS, npH, o5, by omega⟩
      · rintro i σ H7 hi ⟨y4, y5, y6, y7, p, os, rfl, s07, t7, ep7, npS, npH, o7, l7⟩
        have hi3 : i < 4 := by omega
        have hp8 : 2 ^ i ≤ 8 := Nat.le_trans (Nat.pow_le_pow_right (by decide) (by omega : i ≤ 3)) (by decide)
        have hp2 : 2 ^ (i + 1) = 2 * 2 ^ i := by rw [Nat.pow_succ, Nat.mul_comm]
        refine ⟨_, rfl, _, rfl, _, rfl, p, _, rfl, .inl (.inl (.inl ep7)), _, _, rfl, rfl, S, scr, _, ns, rfl, by omega, by rw [List.length_map]; omega, t7, sq0 s07, fun H8 at_ k8 t8 b0 b1 => ?_⟩
        have k8 : Ex H7 H8 S := k8
        have s08 := toS s07 k8
        have ep8 := idS ep7 k8 npS
        refine ⟨_, rfl, _, rfl, S, scr, 6, ns, rfl, by decide, by decide, t8, sq0 s08, fun H9 kd k9 t9 c0 c1 => ?_⟩
        have k9 : Ex H8 H9 S := k9
        have s09 := toS s08 k9
        have ep9 := idS ep8 k9 npS
        refine ⟨_, rfl, _, rfl, S, scr, 256, ns, rfl, by decide, by decide, t9, sq0 s09, fun H10 vr k10 t10 d0 d1 => ⟨(by show 7 ≤ sizeLine; decide), fun L nL => ?_⟩⟩
        have k10 : Ex H9 H10 S := k10
        have s10 := toS s09 k10
        have ep10 := idS ep9 k10 npS
        have sL := same_new (o := .lst [.int 0, .int 1, .int 2, .int 128, .int 97, .int 255, .int vr]) nL
        have tL := t10.same sL
        have sL0 := s10.trans sL
        refine ⟨_, rfl, _, rfl, S, scr, 7, ns, rfl, by decide, by decide, tL, sq0 sL0, fun H11 iv k11 t11 e0 e1 => ?_⟩
        have k11 : Ex _ H11 S := k11
        have s11 := toS sL0 k11
        have ep11 := idS (sL _ _ ep10) k11 npS
        obtain ⟨x, hx, eat⟩ := atI_all (xs := [V.int 0, .int 1, .int 2, .int 128, .int 97, .int 255, .int vr]) e0 e1
        obtain ⟨val, rfl, hval⟩ : ∃ val, x = .int val ∧ Ov val := by
          simp only [List.mem_cons, List.not_mem_nil, or_false] at hx
          unfold Ov
          rcases hx with rfl | rfl | rfl | rfl | rfl | rfl | rfl
          · exact ⟨_, rfl, by decide, by decide⟩
          · exact ⟨_, rfl, by decide, by decide⟩
          · exact ⟨_, rfl, by decide, by decide⟩
          · exact ⟨_, rfl, by decide, by decide⟩
          · exact ⟨_, rfl, by decide, by decide⟩
          · exact ⟨_, rfl, by decide, by decide⟩
          · exact ⟨_, rfl, by omega, by omega⟩
        refine ⟨L, _, iv, .int val, rfl, rfl, .inl (.inl (k11 _ _ upd_same (t10.ne nL))), eat, ?_⟩
        have cutNew : ∀ (a b : Option Int) (H12 : Hp), Same H11 H12 → ∃ ps : List Int, cutV (os.map V.int) a b = ps.map V.int ∧ ps.length ≤ os.length ∧ ∀ o ∈ ps, Ov o := fun a b H12 _ => by
          obtain ⟨ps, q1, q2, q3⟩ := cut_some os a b
          exact ⟨ps, q1, q2, fun o ho => o7 o (q3 o ho)⟩
        by_cases hc : kd < 3 ∧ at_ < ((os.map V.int).length : Int)
        case pos =>
          have hc2 := hc.2
          rw [List.length_map] at hc2
          have hset := set_o (os := os) (j := at_.toNat) (x := val) o7 hval
          refine ⟨_, rfl, _, _, rfl, rfl, _, rfl, iteB (decide_eq_true hc.1) ⟨_, rfl, _, rfl, p, _, rfl, .inl (.inl (.inl ep11)), _, _, rfl, rfl, _, rfl, iteB (decide_eq_true hc.2) ⟨_, rfl, _, rfl, _, rfl, p, _, at_, at_.toNat, rfl, rfl, ep11, ?_, ?_⟩⟩⟩
          · unfold ixN
            rw [if_pos b0, if_pos hc.2]
          · refine ⟨_, _, _, _, p, os.set at_.toNat val, rfl, fun c o e => ?_, t11.put npS, by rw [upd_same, hset.1], npS, npH, hset.2, by rw [List.length_set]; omega⟩
            rw [upd_ne (fun z => by rw [z, npH] at e; cases e)]
            exact s11 _ _ e
        refine ⟨_, rfl, _, _, rfl, rfl, _, rfl, andF2 (fun hb k => ⟨_, rfl, _, rfl, p, _, rfl, .inl (.inl (.inl ep11)), _, _, rfl, rfl, _, rfl, iteBF (decide_eq_false fun z => hc ⟨of_decide_eq_true hb, z⟩) (Eq.mp (if_neg Bool.false_ne_true) k)⟩) (iteF ?_)⟩
        refine ⟨_, rfl, rfl, _, rfl, ?_⟩
        rw [int_eq]
        by_cases h3 : kd = 3
        · refine iteB (decide_eq_true h3) ⟨_, rfl, _, rfl, _, rfl, p, _, rfl, .inl (.inl ep11), fun q1 n1 => ?_⟩
          obtain ⟨ps, f1, f2, f3⟩ := cutNew none (some at_) H11 (Same.refl _)
          rw [f1]
          have g1 := same_new (o := .lst (ps.map V.int)) n1
          refine ⟨_, rfl, _, rfl, _, _, rfl, rfl, _, rfl, p, _, rfl, .inl (.inl (g1 _ _ ep11)), fun q2 n2 => ?_⟩
          obtain ⟨rs, f4, f5, f6⟩ := cutNew (some (at_ + 1)) none H11 (Same.refl _)
          rw [f4]
          have g2 := same_new (o := .lst (rs.map V.int)) n2
          refine ⟨q1, q2, _, _, rfl, rfl, g2 _ _ upd_same, upd_same, by rw [List.length_map, List.length_map]; exact big (by omega), fun q3 n3 => ?_⟩
          have g3 := same_new (o := .lst (ps.map V.int ++ rs.map V.int)) n3
          have gg := (g1.trans g2).trans g3
          exact ⟨_, _, _, _, q3, ps ++ rs, rfl, s11.trans gg, t11.same gg, by rw [upd_same, List.map_append], (t11.same (g1.trans g2)).ne n3, s11.free ((g1.trans g2).free n3), app_o f3 f6, by rw [List.length_append]; omega⟩
        refine iteBF (decide_eq_false h3) ⟨_, rfl, rfl, _, rfl, ?_⟩
        rw [int_eq]
        by_cases h4 : kd = 4
        · refine iteB (decide_eq_true h4) ⟨_, rfl, _, rfl, _, rfl, p, _, rfl, .inl (.inl ep11), fun q1 n1 => ?_⟩
          obtain ⟨ps, f1, f2, f3⟩ := cutNew none (some at_) H11 (Same.refl _)
          rw [f1]
          have g1 := same_new (o := .lst (ps.map V.int)) n1
          refine ⟨_, rfl, (by show 1 ≤ sizeLine; decide), fun qv nv => ?_⟩
          have gv := same_new (o := .lst [V.int val]) nv
          refine ⟨q1, qv, _, _, rfl, rfl, gv _ _ upd_same, upd_same, by rw [List.length_map]; exact big (by show _ + 1 ≤ _; omega), fun qc nc => ?_⟩
          have gc := same_new (o := .lst (ps.map V.int ++ [V.int val])) nc
          have g2 := (g1.trans gv).trans gc
          refine ⟨_, rfl, _, rfl, _, rfl, p, _, rfl, .inl (.inl (g2 _ _ ep11)), fun q2 n2 => ?_⟩
          obtain ⟨rs, f4, f5, f6⟩ := cutNew (some at_) none H11 (Same.refl _)
          rw [f4]
          have g3 := same_new (o := .lst (rs.map V.int)) n2
          refine ⟨qc, q2, _, _, rfl, rfl, g3 _ _ upd_same, upd_same, by rw [List.length_append, List.length_map, List.length_map]; exact big (by show _ + 1 + _ ≤ _; omega), fun q3 n3 => ?_⟩
          have g4 := same_new (o := .lst (ps.map V.int ++ [V.int val] ++ rs.map V.int)) n3
          have gg := (g2.trans g3).trans g4
          exact ⟨_, _, _, _, q3, ps ++ [val] ++ rs, rfl, s11.trans gg, t11.same gg, by rw [upd_same, List.map_append, List.map_append]; rfl, (t11.same (g2.trans g3)).ne n3, s11.free ((g2.trans g3).free n3), app_o (app_o f3 (one_o hval)) f6, by rw [List.length_append, List.length_append]; show _ + 1 + _ + 1 ≤ _; omega⟩
        refine iteBF (decide_eq_false h4) ⟨_, rfl, rfl, _, rfl, ?_⟩
        rw [int_eq]
        by_cases h5 : kd = 5
        · refine iteB (decide_eq_true h5) ⟨_, rfl, _, rfl, _, rfl, p, _, rfl, .inl (.inl ep11), fun q1 n1 => ?_⟩
          obtain ⟨ps, f1, f2, f3⟩ := cutNew none (some at_) H11 (Same.refl _)
          rw [f1]
          have g1 := same_new (o := .lst (ps.map V.int)) n1
          exact ⟨_, _, _, _, q1, ps, rfl, s11.trans g1, t11.same g1, upd_same, t11.ne n1, s11.free n1, f3, by omega⟩
        · exact iteBF (decide_eq_false h5) ⟨_, _, _, _, p, os, rfl, s11, t11, ep11, npS, npH, o7, by omega⟩
      · rintro σ H7 ⟨y4, y5, y6, y7, p, os, rfl, s07, t7, ep7, npS, npH, o7, l7⟩
        have hp8 : 2 ^ v6.toNat ≤ 8 := Nat.le_trans (Nat.pow_le_pow_right (by decide) (by omega : v6.toNat ≤ 3)) (by decide)
        exact ⟨_, _, _, _, p, os, rfl, s07, t7, ep7, npS, npH, o7, by omega⟩
    rintro σ H6 ⟨y4, y5, y6, y7, p, os, rfl, s06, t6, ep6, npS, npH, o6, l6⟩
    refine ⟨fun σ H7 => ∃ (y8 : Option V) (p : Addr) (os : List Int), σ = [some (.ref scr), some (.ref S), some (.ref p), some (.bl sm), y4, y5, y6, y7, y8, none, none] ∧ H7 p = some (.lst (os.map V.int)) ∧ (∀ o ∈ os, Ov o) ∧ os.length ≤ 56020, ?_, ?_⟩
    · refine ⟨_, rfl, sm, rfl, ?_⟩
      cases sm with
      | false => exact iteF ⟨_, p, os, rfl, ep6, o6, by omega⟩
      | true =>
        refine iteT ⟨_, rfl, p, os, rfl, .inl (.inl ep6), ?_⟩
        refine ⟨_, rfl, _, rfl, _, _, rfl, rfl, ⟨by decide, by decide⟩, _, _, rfl, rfl, (by show (0 : Int) < 256; decide), _, rfl, _, _, rfl, rfl, ⟨by decide, by decide⟩, _, _, rfl, rfl, (by show (0 : Int) < 256; decide), _, rfl, _, _, rfl, rfl, ⟨by decide, by decide⟩, _, _, rfl, rfl, (by show (0 : Int) < 256; decide), _, rfl, _, _, rfl, rfl, (by show (0 : Int) < 256; decide), (by show 4 ≤ sizeLine; decide), fun q1 n1 => ?_⟩
        have g1 := same_new (o := .lst ((w4 (sumO os)).map V.int)) n1
        refine ⟨p, q1, _, _, rfl, rfl, g1 _ _ ep6, upd_same, by rw [List.length_map]; exact big (by show _ + 4 ≤ _; omega), fun q2 n2 => ?_⟩
        refine ⟨_, q2, os ++ w4 (sumO os), rfl, by rw [upd_same, List.map_append]; rfl, app_o o6 (w4_o _), by rw [List.length_append, w4_l]; omega⟩
    rintro σ H7 ⟨y8, p, os, rfl, ep7, o7, l7⟩
    have O : Os os := ⟨o7, by omega⟩
    refine ⟨_, rfl, p, _, rfl, .inl (.inl (.inl ep7)), fun g ng => ?_⟩
    have s8 := same_new (o := .lst (os.map V.int)) ng
    refine ⟨_, rfl, g, os, rfl, upd_same, O, fun x m e H9 fv s9 rr => ?_, fun t i e H9 fv s9 fa => ?_⟩
    · refine ⟨_, rfl, _, rfl, p, os, rfl, s9 _ _ (s8 _ _ ep7), O, fun x' m' e' H10 dv s10 rr' => ?_, fun t i e' => by rw [e] at e'; cases e'⟩
      rw [e] at e'
      injection e' with e'
      injection e' with e1 e2
      subst e1
      have r1 : RtAt H10 CR C fv x.1 x.2.1 x.2.2 := RtAt.same rr s10
      obtain ⟨fa, dxf, uf, rfl, hfa, tuf⟩ := r1
      obtain ⟨da, dxd, ud, rfl, hda, tud⟩ := rr'
      refine ⟨.inr ⟨fa, da, dxf, dxd, _, _, rfl, rfl, hfa, hda, x.1, x.2.1, x.2.2, ⟨fa, dxf, uf, rfl, hfa, tuf⟩, ⟨da, dxd, ud, rfl, hda, tud⟩⟩, fun H11 e11 => ⟨true, rfl, iteT ?_⟩⟩
      exact ⟨_, rfl, _, rfl, .list (os.map PyData.int), .list (os.map PyData.int), .lst (.inl (.inl (e11 _ _ (s10 _ _ (s9 _ _ upd_same))))) (dp_ints os), .lst (.inl (.inl (e11 _ _ (s10 _ _ (s9 _ _ (s8 _ _ ep7)))))) (dp_ints os), shp_of (depth_ints os) (lay_ints os), shp_of (depth_ints os) (lay_ints os), by rw [eqv_of (lay_ints os)]; exact q0 _⟩
    · refine ⟨_, rfl, _, rfl, p, os, rfl, s9 _ _ (s8 _ _ ep7), O, (fun x' m' e' => by rw [e] at e'; cases e'), fun t' i' e' H10 dv s10 fd => ?_⟩
      rw [e] at e'
      injection e' with e'
      injection e' with e1 e2
      subst e1 e2
      obtain ⟨tp, rfl, htp⟩ := fa
      obtain ⟨dp, rfl, hdp⟩ := fd
      refine ⟨.inl ⟨tp, dp, _, _, rfl, rfl, SqT.of (s10 _ _ htp), SqT.of hdp, prs_self fun z hz => dflat ?_⟩, fun H11 e11 => ⟨true, rfl, iteT ?_⟩⟩
      · simp only [List.mem_cons, List.not_mem_nil, or_false] at hz
        rcases hz with rfl | rfl <;> rfl
      · exact ⟨_, rfl, _, rfl, .list (os.map PyData.int), .list (os.map PyData.int), .lst (.inl (.inl (e11 _ _ (s10 _ _ (s9 _ _ upd_same))))) (dp_ints os), .lst (.inl (.inl (e11 _ _ (s10 _ _ (s9 _ _ (s8 _ _ ep7)))))) (dp_ints os), shp_of (depth_ints os) (lay_ints os), shp_of (depth_ints os) (lay_ints os), by rw [eqv_of (lay_ints os)]; exact q0 _⟩
end
end K2

namespace K2
open PySem L2
theorem all_mk {l : PySem.W.OpenLaw} {w : World} {K : PySem.W.Frag} {h : Heap} {mg : Str → Option Value} {fa : Addr} (X : K.In h) (G : h.Ns mainGlobals mg) (hfa : mg "law" = some (.ref fa))
    {f1 : Addr} {od1 an1 : Option Addr} {sl1 : Array (Option Value)} {oc1 kV1 dc1 pm1 cd1 ct1 : Value}
    (a1 : PySem.W.nsIn K mainGlobals "encode_text" = some (some (.ref f1))) (l1 : K.lookup f1 = some ⟨oc1, od1, .func (PySem.W.fnOf "encode_text" "encode_text" (defArgs sEncodeText) (defBody sEncodeText) (defScope sEncodeText) .none kV1 dc1 pm1 an1 cd1 ct1), sl1⟩) (c1 : PySem.W.codeIn K cd1 "encode_text" = true) (k1 : PySem.W.keepIn K (.ref f1) = true)
    {f2 : Addr} {od2 an2 : Option Addr} {sl2 : Array (Option Value)} {oc2 kV2 dc2 pm2 cd2 ct2 : Value}
    (a2 : PySem.W.nsIn K mainGlobals "decode_text" = some (some (.ref f2))) (l2 : K.lookup f2 = some ⟨oc2, od2, .func (PySem.W.fnOf "decode_text" "decode_text" (defArgs sDecodeText) (defBody sDecodeText) (defScope sDecodeText) .none kV2 dc2 pm2 an2 cd2 ct2), sl2⟩) (c2 : PySem.W.codeIn K cd2 "decode_text" = true) (k2 : PySem.W.keepIn K (.ref f2) = true)
    {f3 : Addr} {od3 an3 : Option Addr} {sl3 : Array (Option Value)} {oc3 kV3 dc3 pm3 cd3 ct3 : Value}
    (a3 : PySem.W.nsIn K mainGlobals "is_code" = some (some (.ref f3))) (l3 : K.lookup f3 = some ⟨oc3, od3, .func (PySem.W.fnOf "is_code" "is_code" (defArgs sIsCode) (defBody sIsCode) (defScope sIsCode) .none kV3 dc3 pm3 an3 cd3 ct3), sl3⟩) (c3 : PySem.W.codeIn K cd3 "is_code" = true) (k3 : PySem.W.keepIn K (.ref f3) = true)
    {f4 : Addr} {od4 an4 : Option Addr} {sl4 : Array (Option Value)} {oc4 kV4 dc4 pm4 cd4 ct4 : Value}
    (a4 : PySem.W.nsIn K mainGlobals "character_of" = some (some (.ref f4))) (l4 : K.lookup f4 = some ⟨oc4, od4, .func (PySem.W.fnOf "character_of" "character_of" (defArgs sCharacterOf) (defBody sCharacterOf) (defScope sCharacterOf) .none kV4 dc4 pm4 an4 cd4 ct4), sl4⟩) (c4 : PySem.W.codeIn K cd4 "character_of" = true) (k4 : PySem.W.keepIn K (.ref f4) = true)
    {f5 : Addr} {od5 an5 : Option Addr} {sl5 : Array (Option Value)} {oc5 kV5 dc5 pm5 cd5 ct5 : Value}
    (a5 : PySem.W.nsIn K mainGlobals "check_shape" = some (some (.ref f5))) (l5 : K.lookup f5 = some ⟨oc5, od5, .func (PySem.W.fnOf "check_shape" "check_shape" (defArgs sCheckShape) (defBody sCheckShape) (defScope sCheckShape) .none kV5 dc5 pm5 an5 cd5 ct5), sl5⟩) (c5 : PySem.W.codeIn K cd5 "check_shape" = true) (k5 : PySem.W.keepIn K (.ref f5) = true)
    {f6 : Addr} {od6 an6 : Option Addr} {sl6 : Array (Option Value)} {oc6 kV6 dc6 pm6 cd6 ct6 : Value}
    (a6 : PySem.W.nsIn K mainGlobals "is_dim" = some (some (.ref f6))) (l6 : K.lookup f6 = some ⟨oc6, od6, .func (PySem.W.fnOf "is_dim" "is_dim" (defArgs sIsDim) (defBody sIsDim) (defScope sIsDim) .none kV6 dc6 pm6 an6 cd6 ct6), sl6⟩) (c6 : PySem.W.codeIn K cd6 "is_dim" = true) (k6 : PySem.W.keepIn K (.ref f6) = true)
    {f7 : Addr} {od7 an7 : Option Addr} {sl7 : Array (Option Value)} {oc7 kV7 dc7 pm7 cd7 ct7 : Value}
    (a7 : PySem.W.nsIn K mainGlobals "is_attr" = some (some (.ref f7))) (l7 : K.lookup f7 = some ⟨oc7, od7, .func (PySem.W.fnOf "is_attr" "is_attr" (defArgs sIsAttr) (defBody sIsAttr) (defScope sIsAttr) .none kV7 dc7 pm7 an7 cd7 ct7), sl7⟩) (c7 : PySem.W.codeIn K cd7 "is_attr" = true) (k7 : PySem.W.keepIn K (.ref f7) = true)
    {f8 : Addr} {od8 an8 : Option Addr} {sl8 : Array (Option Value)} {oc8 kV8 dc8 pm8 cd8 ct8 : Value}
    (a8 : PySem.W.nsIn K mainGlobals "is_simple_name" = some (some (.ref f8))) (l8 : K.lookup f8 = some ⟨oc8, od8, .func (PySem.W.fnOf "is_simple_name" "is_simple_name" (defArgs sIsSimpleName) (defBody sIsSimpleName) (defScope sIsSimpleName) .none kV8 dc8 pm8 an8 cd8 ct8), sl8⟩) (c8 : PySem.W.codeIn K cd8 "is_simple_name" = true) (k8 : PySem.W.keepIn K (.ref f8) = true)
    {f9 : Addr} {od9 an9 : Option Addr} {sl9 : Array (Option Value)} {oc9 kV9 dc9 pm9 cd9 ct9 : Value}
    (a9 : PySem.W.nsIn K mainGlobals "sum_of" = some (some (.ref f9))) (l9 : K.lookup f9 = some ⟨oc9, od9, .func (PySem.W.fnOf "sum_of" "sum_of" (defArgs sSumOf) (defBody sSumOf) (defScope sSumOf) .none kV9 dc9 pm9 an9 cd9 ct9), sl9⟩) (c9 : PySem.W.codeIn K cd9 "sum_of" = true) (k9 : PySem.W.keepIn K (.ref f9) = true)
    {f10 : Addr} {od10 an10 : Option Addr} {sl10 : Array (Option Value)} {oc10 kV10 dc10 pm10 cd10 ct10 : Value}
    (a10 : PySem.W.nsIn K mainGlobals "write_four" = some (some (.ref f10))) (l10 : K.lookup f10 = some ⟨oc10, od10, .func (PySem.W.fnOf "write_four" "write_four" (defArgs sWriteFour) (defBody sWriteFour) (defScope sWriteFour) .none kV10 dc10 pm10 an10 cd10 ct10), sl10⟩) (c10 : PySem.W.codeIn K cd10 "write_four" = true) (k10 : PySem.W.keepIn K (.ref f10) = true)
    {f11 : Addr} {od11 an11 : Option Addr} {sl11 : Array (Option Value)} {oc11 kV11 dc11 pm11 cd11 ct11 : Value}
    (a11 : PySem.W.nsIn K mainGlobals "write_name" = some (some (.ref f11))) (l11 : K.lookup f11 = some ⟨oc11, od11, .func (PySem.W.fnOf "write_name" "write_name" (defArgs sWriteName) (defBody sWriteName) (defScope sWriteName) .none kV11 dc11 pm11 an11 cd11 ct11), sl11⟩) (c11 : PySem.W.codeIn K cd11 "write_name" = true) (k11 : PySem.W.keepIn K (.ref f11) = true)
    {f12 : Addr} {od12 an12 : Option Addr} {sl12 : Array (Option Value)} {oc12 kV12 dc12 pm12 cd12 ct12 : Value}
    (a12 : PySem.W.nsIn K mainGlobals "encode_root" = some (some (.ref f12))) (l12 : K.lookup f12 = some ⟨oc12, od12, .func (PySem.W.fnOf "encode_root" "encode_root" (defArgs sEncodeRoot) (defBody sEncodeRoot) (defScope sEncodeRoot) .none kV12 dc12 pm12 an12 cd12 ct12), sl12⟩) (c12 : PySem.W.codeIn K cd12 "encode_root" = true) (k12 : PySem.W.keepIn K (.ref f12) = true)
    {f13 : Addr} {od13 an13 : Option Addr} {sl13 : Array (Option Value)} {oc13 kV13 dc13 pm13 cd13 ct13 : Value}
    (a13 : PySem.W.nsIn K mainGlobals "write_shape" = some (some (.ref f13))) (l13 : K.lookup f13 = some ⟨oc13, od13, .func (PySem.W.fnOf "write_shape" "write_shape" (defArgs sWriteShape) (defBody sWriteShape) (defScope sWriteShape) .none kV13 dc13 pm13 an13 cd13 ct13), sl13⟩) (c13 : PySem.W.codeIn K cd13 "write_shape" = true) (k13 : PySem.W.keepIn K (.ref f13) = true)
    {f14 : Addr} {od14 an14 : Option Addr} {sl14 : Array (Option Value)} {oc14 kV14 dc14 pm14 cd14 ct14 : Value}
    (a14 : PySem.W.nsIn K mainGlobals "write_chunks" = some (some (.ref f14))) (l14 : K.lookup f14 = some ⟨oc14, od14, .func (PySem.W.fnOf "write_chunks" "write_chunks" (defArgs sWriteChunks) (defBody sWriteChunks) (defScope sWriteChunks) .none kV14 dc14 pm14 an14 cd14 ct14), sl14⟩) (c14 : PySem.W.codeIn K cd14 "write_chunks" = true) (k14 : PySem.W.keepIn K (.ref f14) = true)
    {f15 : Addr} {od15 an15 : Option Addr} {sl15 : Array (Option Value)} {oc15 kV15 dc15 pm15 cd15 ct15 : Value}
    (a15 : PySem.W.nsIn K mainGlobals "decode_root" = some (some (.ref f15))) (l15 : K.lookup f15 = some ⟨oc15, od15, .func (PySem.W.fnOf "decode_root" "decode_root" (defArgs sDecodeRoot) (defBody sDecodeRoot) (defScope sDecodeRoot) .none kV15 dc15 pm15 an15 cd15 ct15), sl15⟩) (c15 : PySem.W.codeIn K cd15 "decode_root" = true) (k15 : PySem.W.keepIn K (.ref f15) = true)
    {f16 : Addr} {od16 an16 : Option Addr} {sl16 : Array (Option Value)} {oc16 kV16 dc16 pm16 cd16 ct16 : Value}
    (a16 : PySem.W.nsIn K mainGlobals "read_arrays" = some (some (.ref f16))) (l16 : K.lookup f16 = some ⟨oc16, od16, .func (PySem.W.fnOf "read_arrays" "read_arrays" (defArgs sReadArrays) (defBody sReadArrays) (defScope sReadArrays) .none kV16 dc16 pm16 an16 cd16 ct16), sl16⟩) (c16 : PySem.W.codeIn K cd16 "read_arrays" = true) (k16 : PySem.W.keepIn K (.ref f16) = true)
    {f17 : Addr} {od17 an17 : Option Addr} {sl17 : Array (Option Value)} {oc17 kV17 dc17 pm17 cd17 ct17 : Value}
    (a17 : PySem.W.nsIn K mainGlobals "read_name" = some (some (.ref f17))) (l17 : K.lookup f17 = some ⟨oc17, od17, .func (PySem.W.fnOf "read_name" "read_name" (defArgs sReadName) (defBody sReadName) (defScope sReadName) .none kV17 dc17 pm17 an17 cd17 ct17), sl17⟩) (c17 : PySem.W.codeIn K cd17 "read_name" = true) (k17 : PySem.W.keepIn K (.ref f17) = true)
    {f18 : Addr} {od18 an18 : Option Addr} {sl18 : Array (Option Value)} {oc18 kV18 dc18 pm18 cd18 ct18 : Value}
    (a18 : PySem.W.nsIn K mainGlobals "read_shape" = some (some (.ref f18))) (l18 : K.lookup f18 = some ⟨oc18, od18, .func (PySem.W.fnOf "read_shape" "read_shape" (defArgs sReadShape) (defBody sReadShape) (defScope sReadShape) .none kV18 dc18 pm18 an18 cd18 ct18), sl18⟩) (c18 : PySem.W.codeIn K cd18 "read_shape" = true) (k18 : PySem.W.keepIn K (.ref f18) = true)
    {f19 : Addr} {od19 an19 : Option Addr} {sl19 : Array (Option Value)} {oc19 kV19 dc19 pm19 cd19 ct19 : Value}
    (a19 : PySem.W.nsIn K mainGlobals "read_dim" = some (some (.ref f19))) (l19 : K.lookup f19 = some ⟨oc19, od19, .func (PySem.W.fnOf "read_dim" "read_dim" (defArgs sReadDim) (defBody sReadDim) (defScope sReadDim) .none kV19 dc19 pm19 an19 cd19 ct19), sl19⟩) (c19 : PySem.W.codeIn K cd19 "read_dim" = true) (k19 : PySem.W.keepIn K (.ref f19) = true)
    {f20 : Addr} {od20 an20 : Option Addr} {sl20 : Array (Option Value)} {oc20 kV20 dc20 pm20 cd20 ct20 : Value}
    (a20 : PySem.W.nsIn K mainGlobals "read_attr" = some (some (.ref f20))) (l20 : K.lookup f20 = some ⟨oc20, od20, .func (PySem.W.fnOf "read_attr" "read_attr" (defArgs sReadAttr) (defBody sReadAttr) (defScope sReadAttr) .none kV20 dc20 pm20 an20 cd20 ct20), sl20⟩) (c20 : PySem.W.codeIn K cd20 "read_attr" = true) (k20 : PySem.W.keepIn K (.ref f20) = true)
    {f21 : Addr} {od21 an21 : Option Addr} {sl21 : Array (Option Value)} {oc21 kV21 dc21 pm21 cd21 ct21 : Value}
    (a21 : PySem.W.nsIn K mainGlobals "read_chunks" = some (some (.ref f21))) (l21 : K.lookup f21 = some ⟨oc21, od21, .func (PySem.W.fnOf "read_chunks" "read_chunks" (defArgs sReadChunks) (defBody sReadChunks) (defScope sReadChunks) .none kV21 dc21 pm21 an21 cd21 ct21), sl21⟩) (c21 : PySem.W.codeIn K cd21 "read_chunks" = true) (k21 : PySem.W.keepIn K (.ref f21) = true)
    {f22 : Addr} {od22 an22 : Option Addr} {sl22 : Array (Option Value)} {oc22 kV22 dc22 pm22 cd22 ct22 : Value}
    (a22 : PySem.W.nsIn K mainGlobals "_law_draw" = some (some (.ref f22))) (l22 : K.lookup f22 = some ⟨oc22, od22, .func (PySem.W.fnOf "_law_draw" "_law_draw" (defArgs sDraw) (defBody sDraw) (defScope sDraw) .none kV22 dc22 pm22 an22 cd22 ct22), sl22⟩) (c22 : PySem.W.codeIn K cd22 "_law_draw" = true) (k22 : PySem.W.keepIn K (.ref f22) = true)
    {f23 : Addr} {od23 an23 : Option Addr} {sl23 : Array (Option Value)} {oc23 kV23 dc23 pm23 cd23 ct23 : Value}
    (a23 : PySem.W.nsIn K mainGlobals "_law_shape" = some (some (.ref f23))) (l23 : K.lookup f23 = some ⟨oc23, od23, .func (PySem.W.fnOf "_law_shape" "_law_shape" (defArgs sShape) (defBody sShape) (defScope sShape) .none kV23 dc23 pm23 an23 cd23 ct23), sl23⟩) (c23 : PySem.W.codeIn K cd23 "_law_shape" = true) (k23 : PySem.W.keepIn K (.ref f23) = true)
    {f24 : Addr} {od24 an24 : Option Addr} {sl24 : Array (Option Value)} {oc24 kV24 dc24 pm24 cd24 ct24 : Value}
    (a24 : PySem.W.nsIn K mainGlobals "_law_chunks" = some (some (.ref f24))) (l24 : K.lookup f24 = some ⟨oc24, od24, .func (PySem.W.fnOf "_law_chunks" "_law_chunks" (defArgs sLChunks) (defBody sLChunks) (defScope sLChunks) .none kV24 dc24 pm24 an24 cd24 ct24), sl24⟩) (c24 : PySem.W.codeIn K cd24 "_law_chunks" = true) (k24 : PySem.W.keepIn K (.ref f24) = true)
    {f25 : Addr} {od25 an25 : Option Addr} {sl25 : Array (Option Value)} {oc25 kV25 dc25 pm25 cd25 ct25 : Value}
    (a25 : PySem.W.nsIn K mainGlobals "_law_root" = some (some (.ref f25))) (l25 : K.lookup f25 = some ⟨oc25, od25, .func (PySem.W.fnOf "_law_root" "_law_root" (defArgs sLRoot) (defBody sLRoot) (defScope sLRoot) .none kV25 dc25 pm25 an25 cd25 ct25), sl25⟩) (c25 : PySem.W.codeIn K cd25 "_law_root" = true) (k25 : PySem.W.keepIn K (.ref f25) = true)
    {f26 : Addr} {od26 an26 : Option Addr} {sl26 : Array (Option Value)} {oc26 kV26 dc26 pm26 cd26 ct26 : Value}
    (a26 : PySem.W.nsIn K mainGlobals "_law_fail" = some (some (.ref f26))) (l26 : K.lookup f26 = some ⟨oc26, od26, .func (PySem.W.fnOf "_law_fail" "_law_fail" (defArgs sLFail) (defBody sLFail) (defScope sLFail) .none kV26 dc26 pm26 an26 cd26 ct26), sl26⟩) (c26 : PySem.W.codeIn K cd26 "_law_fail" = true) (k26 : PySem.W.keepIn K (.ref f26) = true)
    {f27 : Addr} {od27 an27 : Option Addr} {sl27 : Array (Option Value)} {oc27 kV27 dc27 pm27 cd27 ct27 : Value}
    (a27 : PySem.W.nsIn K mainGlobals "_law_take" = some (some (.ref f27))) (l27 : K.lookup f27 = some ⟨oc27, od27, .func (PySem.W.fnOf "_law_take" "_law_take" (defArgs sLTake) (defBody sLTake) (defScope sLTake) .none kV27 dc27 pm27 an27 cd27 ct27), sl27⟩) (c27 : PySem.W.codeIn K cd27 "_law_take" = true) (k27 : PySem.W.keepIn K (.ref f27) = true)
    {f28 : Addr} {od28 an28 : Option Addr} {sl28 : Array (Option Value)} {oc28 kV28 dc28 pm28 cd28 ct28 : Value}
    (a28 : PySem.W.nsIn K mainGlobals "_law_char" = some (some (.ref f28))) (l28 : K.lookup f28 = some ⟨oc28, od28, .func (PySem.W.fnOf "_law_char" "_law_char" (defArgs sLChar) (defBody sLChar) (defScope sLChar) .none kV28 dc28 pm28 an28 cd28 ct28), sl28⟩) (c28 : PySem.W.codeIn K cd28 "_law_char" = true) (k28 : PySem.W.keepIn K (.ref f28) = true)
    {f29 : Addr} {od29 an29 : Option Addr} {sl29 : Array (Option Value)} {oc29 kV29 dc29 pm29 cd29 ct29 : Value}
    (a29 : PySem.W.nsIn K mainGlobals "_law_number" = some (some (.ref f29))) (l29 : K.lookup f29 = some ⟨oc29, od29, .func (PySem.W.fnOf "_law_number" "_law_number" (defArgs sNumber) (defBody sNumber) (defScope sNumber) .none kV29 dc29 pm29 an29 cd29 ct29), sl29⟩) (c29 : PySem.W.codeIn K cd29 "_law_number" = true) (k29 : PySem.W.keepIn K (.ref f29) = true)
    {f30 : Addr} {od30 an30 : Option Addr} {sl30 : Array (Option Value)} {oc30 kV30 dc30 pm30 cd30 ct30 : Value}
    (a30 : PySem.W.nsIn K mainGlobals "_law_name" = some (some (.ref f30))) (l30 : K.lookup f30 = some ⟨oc30, od30, .func (PySem.W.fnOf "_law_name" "_law_name" (defArgs sLName) (defBody sLName) (defScope sLName) .none kV30 dc30 pm30 an30 cd30 ct30), sl30⟩) (c30 : PySem.W.codeIn K cd30 "_law_name" = true) (k30 : PySem.W.keepIn K (.ref f30) = true)
    {f31 : Addr} {od31 an31 : Option Addr} {sl31 : Array (Option Value)} {oc31 kV31 dc31 pm31 cd31 ct31 : Value}
    (a31 : PySem.W.nsIn K mainGlobals "_law_read_shape" = some (some (.ref f31))) (l31 : K.lookup f31 = some ⟨oc31, od31, .func (PySem.W.fnOf "_law_read_shape" "_law_read_shape" (defArgs sLReadShape) (defBody sLReadShape) (defScope sLReadShape) .none kV31 dc31 pm31 an31 cd31 ct31), sl31⟩) (c31 : PySem.W.codeIn K cd31 "_law_read_shape" = true) (k31 : PySem.W.keepIn K (.ref f31) = true)
    {f32 : Addr} {od32 an32 : Option Addr} {sl32 : Array (Option Value)} {oc32 kV32 dc32 pm32 cd32 ct32 : Value}
    (a32 : PySem.W.nsIn K mainGlobals "_law_read_chunks" = some (some (.ref f32))) (l32 : K.lookup f32 = some ⟨oc32, od32, .func (PySem.W.fnOf "_law_read_chunks" "_law_read_chunks" (defArgs sLReadChunks) (defBody sLReadChunks) (defScope sLReadChunks) .none kV32 dc32 pm32 an32 cd32 ct32), sl32⟩) (c32 : PySem.W.codeIn K cd32 "_law_read_chunks" = true) (k32 : PySem.W.keepIn K (.ref f32) = true)
    {f33 : Addr} {od33 an33 : Option Addr} {sl33 : Array (Option Value)} {oc33 kV33 dc33 pm33 cd33 ct33 : Value}
    (a33 : PySem.W.nsIn K mainGlobals "_law_read" = some (some (.ref f33))) (l33 : K.lookup f33 = some ⟨oc33, od33, .func (PySem.W.fnOf "_law_read" "_law_read" (defArgs sLRead) (defBody sLRead) (defScope sLRead) .none kV33 dc33 pm33 an33 cd33 ct33), sl33⟩) (c33 : PySem.W.codeIn K cd33 "_law_read" = true) (k33 : PySem.W.keepIn K (.ref f33) = true)
    {f34 : Addr} {od34 an34 : Option Addr} {sl34 : Array (Option Value)} {oc34 kV34 dc34 pm34 cd34 ct34 : Value}
    (a34 : PySem.W.nsIn K mainGlobals "_law_due" = some (some (.ref f34))) (l34 : K.lookup f34 = some ⟨oc34, od34, .func (PySem.W.fnOf "_law_due" "_law_due" (defArgs sLDue) (defBody sLDue) (defScope sLDue) .none kV34 dc34 pm34 an34 cd34 ct34), sl34⟩) (c34 : PySem.W.codeIn K cd34 "_law_due" = true) (k34 : PySem.W.keepIn K (.ref f34) = true)
    {f35 : Addr} {od35 an35 : Option Addr} {sl35 : Array (Option Value)} {oc35 kV35 dc35 pm35 cd35 ct35 : Value}
    (a35 : PySem.W.nsIn K mainGlobals "_law_told" = some (some (.ref f35))) (l35 : K.lookup f35 = some ⟨oc35, od35, .func (PySem.W.fnOf "_law_told" "_law_told" (defArgs sTold) (defBody sTold) (defScope sTold) .none kV35 dc35 pm35 an35 cd35 ct35), sl35⟩) (c35 : PySem.W.codeIn K cd35 "_law_told" = true) (k35 : PySem.W.keepIn K (.ref f35) = true)
    {f36 : Addr} {od36 an36 : Option Addr} {sl36 : Array (Option Value)} {oc36 kV36 dc36 pm36 cd36 ct36 : Value}
    (a36 : PySem.W.nsIn K mainGlobals "law" = some (some (.ref f36))) (l36 : K.lookup f36 = some ⟨oc36, od36, .func (PySem.W.fnOf "law" "law" (defArgs sLaw) (defBody sLaw) (defScope sLaw) .none kV36 dc36 pm36 an36 cd36 ct36), sl36⟩) (c36 : PySem.W.codeIn K cd36 "law" = true) (k36 : PySem.W.keepIn K (.ref f36) = true)
    (z1 : PySem.W.nsIn K mainGlobals "range" = some none)
    (z2 : PySem.W.nsIn K mainGlobals "int" = some none)
    (z3 : PySem.W.nsIn K mainGlobals "len" = some none)
    (z4 : PySem.W.nsIn K mainGlobals "isinstance" = some none)
    (z5 : PySem.W.nsIn K mainGlobals "bool" = some none)
    (z6 : PySem.W.nsIn K mainGlobals "str" = some none)
    (z7 : PySem.W.nsIn K mainGlobals "min" = some none)
    (z8 : PySem.W.nsIn K mainGlobals "max" = some none)
    (z9 : PySem.W.nsIn K mainGlobals "sum" = some none)
    (z10 : PySem.W.nsIn K mainGlobals "abs" = some none)
    (z11 : PySem.W.nsIn K mainGlobals "enumerate" = some none)
    (z12 : PySem.W.nsIn K mainGlobals "tuple" = some none)
    (z13 : PySem.W.nsIn K mainGlobals "list" = some none)
    (z14 : PySem.W.nsIn K mainGlobals "sorted" = some none)
    (z15 : PySem.W.nsIn K mainGlobals "zip" = some none)
    (z16 : PySem.W.nsIn K mainGlobals "reversed" = some none)
    (z17 : PySem.W.nsIn K mainGlobals "dict" = some none)
    (z18 : PySem.W.nsIn K mainGlobals "ValueError" = some none)
    (z19 : PySem.W.nsIn K mainGlobals "all" = some none)
    (z20 : PySem.W.nsIn K mainGlobals "ord" = some none)
    (z21 : PySem.W.nsIn K mainGlobals "KeyError" = some none)
    {t1 : Tok} (g1 : PySem.W.nsIn K mainGlobals "SUM_MODULUS" = some (some (.int 65521 t1)))
    {t2 : Tok} (g2 : PySem.W.nsIn K mainGlobals "LIFT" = some (some (.int 2147483648 t2)))
    {t3 : Tok} (g3 : PySem.W.nsIn K mainGlobals "GREATEST_NUMBER" = some (some (.int 4294967295 t3)))
    {t4 : Tok} (g4 : PySem.W.nsIn K mainGlobals "LINE_FEED" = some (some (.int 10 t4)))
    {t5 : Tok} (g5 : PySem.W.nsIn K mainGlobals "SPACE" = some (some (.int 32 t5)))
    {t6 : Tok} (g6 : PySem.W.nsIn K mainGlobals "PERCENT_SIGN" = some (some (.int 37 t6)))
    {t7 : Tok} (g7 : PySem.W.nsIn K mainGlobals "TILDE" = some (some (.int 126 t7)))
    {t8 : Tok} (g8 : PySem.W.nsIn K mainGlobals "CHARACTERS" = some (some (.str CHS2 t8)))
    {t9 : Tok} (g9 : PySem.W.nsIn K mainGlobals "NAME_CHARACTERS" = some (some (.str NCH t9)))
    {t10 : Tok} (g10 : PySem.W.nsIn K mainGlobals "DIGITS" = some (some (.str DIG t10)))
    {t11 : Tok} (g11 : PySem.W.nsIn K mainGlobals "LONGEST_NAME" = some (some (.int 30 t11)))
    {t12 : Tok} (g12 : PySem.W.nsIn K mainGlobals "MOST_DIMS" = some (some (.int 6 t12)))
    {t13 : Tok} (g13 : PySem.W.nsIn K mainGlobals "MOST_ATTRS" = some (some (.int 16 t13)))
    {t14 : Tok} (g14 : PySem.W.nsIn K mainGlobals "FURTHEST" = some (some (.int 1000000 t14)))
    {t15 : Tok} (g15 : PySem.W.nsIn K mainGlobals "LONGEST_STEP" = some (some (.int 1000000 t15)))
    {kK kF : Addr} {K0 K1 K2' F0 F1 : Tok} {nK nF : Nat} {ddF : Option Addr} {slK slF : Array (Option Value)} {O : Addr} {fOI : Addr} {odOI anOI : Option Addr} {slOI : Array (Option Value)} {ocOI kVOI dcOI pmOI cdOI ctOI : Value} {S : Addr} {fSI : Addr} {odSI anSI : Option Addr} {slSI : Array (Option Value)} {ocSI kVSI dcSI pmSI cdSI ctSI : Value} {R : Addr} {fRI : Addr} {odRI anRI : Option Addr} {slRI : Array (Option Value)} {ocRI kVRI dcRI pmRI cdRI ctRI : Value} {fE : Addr} {odE anE : Option Addr} {slE : Array (Option Value)} {ocE kVE dcE pmE cdE ctE : Value} {CM : Addr} {C1 : Addr} {nm1 q1 : Str} {Nn1 : Addr} {bs1 : List Value} {sn1 : List Str} {sub1 : List Value} {ab1 : Bool} {col1 : Option Bool} {dd1 : Option Addr} {ma1 mb1 mc1 md1 : Option Value} {tn1 : Tok} {C2 : Addr} {nm2 q2 : Str} {Nn2 : Addr} {bs2 : List Value} {sn2 : List Str} {sub2 : List Value} {ab2 : Bool} {col2 : Option Bool} {dd2 : Option Addr} {ma2 mb2 mc2 md2 : Option Value} {tn2 : Tok} {C3 : Addr} {nm3 q3 : Str} {Nn3 : Addr} {bs3 : List Value} {sn3 : List Str} {sub3 : List Value} {ab3 : Bool} {col3 : Option Bool} {dd3 : Option Addr} {ma3 mb3 mc3 md3 : Option Value} {tn3 : Tok} {C4 : Addr} {nm4 q4 : Str} {Nn4 : Addr} {bs4 : List Value} {sn4 : List Str} {sub4 : List Value} {ab4 : Bool} {col4 : Option Bool} {dd4 : Option Addr} {ma4 mb4 mc4 md4 : Option Value} {tn4 : Tok} {fOe : Addr} {odOe anOe : Option Addr} {slOe : Array (Option Value)} {ocOe kVOe dcOe pmOe cdOe ctOe : Value} {fOn : Addr} {odOn anOn : Option Addr} {slOn : Array (Option Value)} {ocOn kVOn dcOn pmOn cdOn ctOn : Value} {fOo : Addr} {odOo anOo : Option Addr} {slOo : Array (Option Value)} {ocOo kVOo dcOo pmOo cdOo ctOo : Value} {fO4 : Addr} {odO4 anO4 : Option Addr} {slO4 : Array (Option Value)} {ocO4 kVO4 dcO4 pmO4 cdO4 ctO4 : Value} {fOi : Addr} {odOi anOi : Option Addr} {slOi : Array (Option Value)} {ocOi kVOi dcOi pmOi cdOi ctOi : Value} {fSE : Addr} {odSE anSE : Option Addr} {slSE : Array (Option Value)} {ocSE kVSE dcSE pmSE cdSE ctSE : Value} {fRE : Addr} {odRE anRE : Option Addr} {slRE : Array (Option Value)} {ocRE kVRE dcRE pmRE cdRE ctRE : Value}
    (eKK : PySem.W.nsIn K mainGlobals "KINDS" = some (some (.ref kK)))
    (lKK : K.lookup kK = some ⟨.type "tuple", none, .seq #[.str "int" K0, .str "flag" K1, .str "text" K2'] nK, slK⟩)
    (eFF : PySem.W.nsIn K mainGlobals "FIRST_OCTETS" = some (some (.ref kF)))
    (lFF : K.lookup kF = some ⟨.type "tuple", ddF, .seq #[.int 77 F0, .int 83 F1] nF, slF⟩)
    (xOe : PySem.W.nsIn K mainGlobals "OctetReader" = some (some (.ref O)))
    (xO1 : PySem.W.makesIn K O = true)
    (xO2 : PySem.W.findIn K (.ref O) "__init__" = some (some (.ref fOI)))
    (xO3 : PySem.W.isFn K (.ref fOI) = true)
    (xO4 : PySem.W.keepIn K (.ref O) = true)
    (xO5 : PySem.W.plainGet K O Str.empty = true)
    (xO6 : PySem.W.hasDictIn K O = true)
    (xO7 : PySem.W.plainOver K O = true)
    (xO8 : PySem.W.findIn K (.ref O) "__setattr__" = some (some (.builtin "object.__setattr__")))
    (xOn0 : PySem.W.findIn K (.ref O) "octets" = some none)
    (xOn1 : PySem.W.findIn K (.ref O) "at" = some none)
    (lOI : K.lookup fOI = some ⟨ocOI, odOI, .func (PySem.W.fnOf "__init__" "OctetReader.__init__" (defArgs sOctetReaderInit) (defBody sOctetReaderInit) (defScope sOctetReaderInit) .none kVOI dcOI pmOI anOI cdOI ctOI), slOI⟩)
    (cOI : PySem.W.codeIn K cdOI "OctetReader.__init__" = true)
    (kOI : PySem.W.keepIn K (.ref fOI) = true)
    (xSe : PySem.W.nsIn K mainGlobals "Shape" = some (some (.ref S)))
    (xS1 : PySem.W.makesIn K S = true)
    (xS2 : PySem.W.findIn K (.ref S) "__init__" = some (some (.ref fSI)))
    (xS3 : PySem.W.isFn K (.ref fSI) = true)
    (xS4 : PySem.W.keepIn K (.ref S) = true)
    (xS5 : PySem.W.plainGet K S Str.empty = true)
    (xS6 : PySem.W.hasDictIn K S = true)
    (xS7 : PySem.W.plainOver K S = true)
    (xS8 : PySem.W.findIn K (.ref S) "__setattr__" = some (some (.builtin "object.__setattr__")))
    (xSn0 : PySem.W.findIn K (.ref S) "dims" = some none)
    (xSn1 : PySem.W.findIn K (.ref S) "attrs" = some none)
    (lSI : K.lookup fSI = some ⟨ocSI, odSI, .func (PySem.W.fnOf "__init__" "Shape.__init__" (defArgs sShInit) (defBody sShInit) (defScope sShInit) .none kVSI dcSI pmSI anSI cdSI ctSI), slSI⟩)
    (cSI : PySem.W.codeIn K cdSI "Shape.__init__" = true)
    (kSI : PySem.W.keepIn K (.ref fSI) = true)
    (xRe : PySem.W.nsIn K mainGlobals "Root" = some (some (.ref R)))
    (xR1 : PySem.W.makesIn K R = true)
    (xR2 : PySem.W.findIn K (.ref R) "__init__" = some (some (.ref fRI)))
    (xR3 : PySem.W.isFn K (.ref fRI) = true)
    (xR4 : PySem.W.keepIn K (.ref R) = true)
    (xR5 : PySem.W.plainGet K R Str.empty = true)
    (xR6 : PySem.W.hasDictIn K R = true)
    (xR7 : PySem.W.plainOver K R = true)
    (xR8 : PySem.W.findIn K (.ref R) "__setattr__" = some (some (.builtin "object.__setattr__")))
    (xRn0 : PySem.W.findIn K (.ref R) "upcoming" = some none)
    (xRn1 : PySem.W.findIn K (.ref R) "data" = some none)
    (xRn2 : PySem.W.findIn K (.ref R) "versions" = some none)
    (lRI : K.lookup fRI = some ⟨ocRI, odRI, .func (PySem.W.fnOf "__init__" "Root.__init__" (defArgs sRootInit) (defBody sRootInit) (defScope sRootInit) .none kVRI dcRI pmRI anRI cdRI ctRI), slRI⟩)
    (cRI : PySem.W.codeIn K cdRI "Root.__init__" = true)
    (kRI : PySem.W.keepIn K (.ref fRI) = true)
    (hn : PySem.W.specialIn K (.builtin "object.__class__") "__get__" = some (some (.builtin "getset_descriptor.__get__")))
    (ht : PySem.W.takesIn K (.builtin "object.__class__") = some true)
    (eM : PySem.W.nsIn K mainGlobals "ManysidesError" = some (some (.ref CM)))
    (eC1 : PySem.W.nsIn K mainGlobals "InvalidText" = some (some (.ref C1)))
    (xL1 : K.lookup C1 = some (excClassObj nm1 q1 C1 Nn1 bs1 [.ref CM, .type "ValueError", .type "Exception", .type "BaseException", .type "object"] true sn1 sub1 ab1 col1 dd1 ma1 mb1 (some (.str "InvalidText" tn1)) mc1 md1 "ValueError.__new__"))
    (sa1 : PySem.W.findIn K (.ref C1) "__setattr__" = some (some (.builtin "object.__setattr__")))
    (ga1 : PySem.W.findIn K (.ref C1) "__getattribute__" = some (some (.builtin "BaseException.__getattribute__")))
    (gg1 : PySem.W.findIn K (.ref C1) "__getattr__" = some none)
    (hs1 : PySem.W.subIn K (.ref C1) (.type "BaseException") = some true)
    (hd1 : PySem.W.hasDictIn K C1 = true)
    (ha1 : PySem.W.findIn K (.ref C1) "__class__" = some (some (.builtin "object.__class__")))
    (hm1 : PySem.W.mroIn K C1 (.type "object") = some true)
    (tyC1 : PySem.W.typeIn K (.ref C1) = some (.type "type"))
    (kC1 : PySem.W.keepIn K (.ref C1) = true)
    (rd1 : PySem.W.readsIn K C1 (.type "type") = true)
    (fc1 : PySem.W.findCls K (.ref C1) (.type "type") "__name__" = some (.get (.builtin "getset_descriptor.__get__") (.builtin "type.__name__") (.ref C1) (.type "type")))
    (noP1 : PySem.W.findIn K (.ref C1) "place" = some none)
    (noN1 : PySem.W.findIn K (.ref C1) "name" = some none)
    (iC1 : PySem.W.findIn K (.ref C1) "__init__" = some (some (.ref fE)))
    (sCC1 : PySem.W.subIn K (.ref C1) (.ref C1) = some true)
    (eC2 : PySem.W.nsIn K mainGlobals "InvalidShape" = some (some (.ref C2)))
    (xL2 : K.lookup C2 = some (excClassObj nm2 q2 C2 Nn2 bs2 [.ref CM, .type "ValueError", .type "Exception", .type "BaseException", .type "object"] true sn2 sub2 ab2 col2 dd2 ma2 mb2 (some (.str "InvalidShape" tn2)) mc2 md2 "ValueError.__new__"))
    (sa2 : PySem.W.findIn K (.ref C2) "__setattr__" = some (some (.builtin "object.__setattr__")))
    (ga2 : PySem.W.findIn K (.ref C2) "__getattribute__" = some (some (.builtin "BaseException.__getattribute__")))
    (gg2 : PySem.W.findIn K (.ref C2) "__getattr__" = some none)
    (hs2 : PySem.W.subIn K (.ref C2) (.type "BaseException") = some true)
    (hd2 : PySem.W.hasDictIn K C2 = true)
    (ha2 : PySem.W.findIn K (.ref C2) "__class__" = some (some (.builtin "object.__class__")))
    (hm2 : PySem.W.mroIn K C2 (.type "object") = some true)
    (tyC2 : PySem.W.typeIn K (.ref C2) = some (.type "type"))
    (kC2 : PySem.W.keepIn K (.ref C2) = true)
    (rd2 : PySem.W.readsIn K C2 (.type "type") = true)
    (fc2 : PySem.W.findCls K (.ref C2) (.type "type") "__name__" = some (.get (.builtin "getset_descriptor.__get__") (.builtin "type.__name__") (.ref C2) (.type "type")))
    (noP2 : PySem.W.findIn K (.ref C2) "place" = some none)
    (noN2 : PySem.W.findIn K (.ref C2) "name" = some none)
    (iC2 : PySem.W.findIn K (.ref C2) "__init__" = some (some (.ref fE)))
    (sCC2 : PySem.W.subIn K (.ref C2) (.ref C2) = some true)
    (eC3 : PySem.W.nsIn K mainGlobals "Truncated" = some (some (.ref C3)))
    (xL3 : K.lookup C3 = some (excClassObj nm3 q3 C3 Nn3 bs3 [.ref CM, .type "ValueError", .type "Exception", .type "BaseException", .type "object"] true sn3 sub3 ab3 col3 dd3 ma3 mb3 (some (.str "Truncated" tn3)) mc3 md3 "ValueError.__new__"))
    (sa3 : PySem.W.findIn K (.ref C3) "__setattr__" = some (some (.builtin "object.__setattr__")))
    (ga3 : PySem.W.findIn K (.ref C3) "__getattribute__" = some (some (.builtin "BaseException.__getattribute__")))
    (gg3 : PySem.W.findIn K (.ref C3) "__getattr__" = some none)
    (hs3 : PySem.W.subIn K (.ref C3) (.type "BaseException") = some true)
    (hd3 : PySem.W.hasDictIn K C3 = true)
    (ha3 : PySem.W.findIn K (.ref C3) "__class__" = some (some (.builtin "object.__class__")))
    (hm3 : PySem.W.mroIn K C3 (.type "object") = some true)
    (tyC3 : PySem.W.typeIn K (.ref C3) = some (.type "type"))
    (kC3 : PySem.W.keepIn K (.ref C3) = true)
    (rd3 : PySem.W.readsIn K C3 (.type "type") = true)
    (fc3 : PySem.W.findCls K (.ref C3) (.type "type") "__name__" = some (.get (.builtin "getset_descriptor.__get__") (.builtin "type.__name__") (.ref C3) (.type "type")))
    (noP3 : PySem.W.findIn K (.ref C3) "place" = some none)
    (noN3 : PySem.W.findIn K (.ref C3) "name" = some none)
    (iC3 : PySem.W.findIn K (.ref C3) "__init__" = some (some (.ref fE)))
    (sCC3 : PySem.W.subIn K (.ref C3) (.ref C3) = some true)
    (eC4 : PySem.W.nsIn K mainGlobals "Damaged" = some (some (.ref C4)))
    (xL4 : K.lookup C4 = some (excClassObj nm4 q4 C4 Nn4 bs4 [.ref CM, .type "ValueError", .type "Exception", .type "BaseException", .type "object"] true sn4 sub4 ab4 col4 dd4 ma4 mb4 (some (.str "Damaged" tn4)) mc4 md4 "ValueError.__new__"))
    (sa4 : PySem.W.findIn K (.ref C4) "__setattr__" = some (some (.builtin "object.__setattr__")))
    (ga4 : PySem.W.findIn K (.ref C4) "__getattribute__" = some (some (.builtin "BaseException.__getattribute__")))
    (gg4 : PySem.W.findIn K (.ref C4) "__getattr__" = some none)
    (hs4 : PySem.W.subIn K (.ref C4) (.type "BaseException") = some true)
    (hd4 : PySem.W.hasDictIn K C4 = true)
    (ha4 : PySem.W.findIn K (.ref C4) "__class__" = some (some (.builtin "object.__class__")))
    (hm4 : PySem.W.mroIn K C4 (.type "object") = some true)
    (tyC4 : PySem.W.typeIn K (.ref C4) = some (.type "type"))
    (kC4 : PySem.W.keepIn K (.ref C4) = true)
    (rd4 : PySem.W.readsIn K C4 (.type "type") = true)
    (fc4 : PySem.W.findCls K (.ref C4) (.type "type") "__name__" = some (.get (.builtin "getset_descriptor.__get__") (.builtin "type.__name__") (.ref C4) (.type "type")))
    (noP4 : PySem.W.findIn K (.ref C4) "place" = some none)
    (noN4 : PySem.W.findIn K (.ref C4) "name" = some none)
    (iC4 : PySem.W.findIn K (.ref C4) "__init__" = some (some (.ref fE)))
    (sCC4 : PySem.W.subIn K (.ref C4) (.ref C4) = some true)
    (s43 : PySem.W.subIn K (.ref C4) (.ref C3) = some false)
    (mOe : PySem.W.findIn K (.ref O) "is_at_end" = some (some (.ref fOe)))
    (hOe : PySem.W.isFn K (.ref fOe) = true)
    (lOe : K.lookup fOe = some ⟨ocOe, odOe, .func (PySem.W.fnOf "is_at_end" "OctetReader.is_at_end" (defArgs sOctetReaderIsAtEnd) (defBody sOctetReaderIsAtEnd) (defScope sOctetReaderIsAtEnd) .none kVOe dcOe pmOe anOe cdOe ctOe), slOe⟩)
    (cOe : PySem.W.codeIn K cdOe "OctetReader.is_at_end" = true)
    (kOe : PySem.W.keepIn K (.ref fOe) = true)
    (mOn : PySem.W.findIn K (.ref O) "next_octets" = some (some (.ref fOn)))
    (hOn : PySem.W.isFn K (.ref fOn) = true)
    (lOn : K.lookup fOn = some ⟨ocOn, odOn, .func (PySem.W.fnOf "next_octets" "OctetReader.next_octets" (defArgs sOctetReaderNextOctets) (defBody sOctetReaderNextOctets) (defScope sOctetReaderNextOctets) .none kVOn dcOn pmOn anOn cdOn ctOn), slOn⟩)
    (cOn : PySem.W.codeIn K cdOn "OctetReader.next_octets" = true)
    (kOn : PySem.W.keepIn K (.ref fOn) = true)
    (mOo : PySem.W.findIn K (.ref O) "next_octet_of" = some (some (.ref fOo)))
    (hOo : PySem.W.isFn K (.ref fOo) = true)
    (lOo : K.lookup fOo = some ⟨ocOo, odOo, .func (PySem.W.fnOf "next_octet_of" "OctetReader.next_octet_of" (defArgs sOctetReaderNextOctetOf) (defBody sOctetReaderNextOctetOf) (defScope sOctetReaderNextOctetOf) .none kVOo dcOo pmOo anOo cdOo ctOo), slOo⟩)
    (cOo : PySem.W.codeIn K cdOo "OctetReader.next_octet_of" = true)
    (kOo : PySem.W.keepIn K (.ref fOo) = true)
    (mO4 : PySem.W.findIn K (.ref O) "next_four" = some (some (.ref fO4)))
    (hO4 : PySem.W.isFn K (.ref fO4) = true)
    (lO4 : K.lookup fO4 = some ⟨ocO4, odO4, .func (PySem.W.fnOf "next_four" "OctetReader.next_four" (defArgs sOctetReaderNextFour) (defBody sOctetReaderNextFour) (defScope sOctetReaderNextFour) .none kVO4 dcO4 pmO4 anO4 cdO4 ctO4), slO4⟩)
    (cO4 : PySem.W.codeIn K cdO4 "OctetReader.next_four" = true)
    (kO4 : PySem.W.keepIn K (.ref fO4) = true)
    (mOi : PySem.W.findIn K (.ref O) "next_four_in" = some (some (.ref fOi)))
    (hOi : PySem.W.isFn K (.ref fOi) = true)
    (lOi : K.lookup fOi = some ⟨ocOi, odOi, .func (PySem.W.fnOf "next_four_in" "OctetReader.next_four_in" (defArgs sOctetReaderNextFourIn) (defBody sOctetReaderNextFourIn) (defScope sOctetReaderNextFourIn) .none kVOi dcOi pmOi anOi cdOi ctOi), slOi⟩)
    (cOi : PySem.W.codeIn K cdOi "OctetReader.next_four_in" = true)
    (kOi : PySem.W.keepIn K (.ref fOi) = true)
    (mSE : PySem.W.findIn K (.ref S) "__eq__" = some (some (.ref fSE)))
    (hSE : PySem.W.isFn K (.ref fSE) = true)
    (lSE : K.lookup fSE = some ⟨ocSE, odSE, .func (PySem.W.fnOf "__eq__" "Shape.__eq__" (defArgs sShEq) (defBody sShEq) (defScope sShEq) .none kVSE dcSE pmSE anSE cdSE ctSE), slSE⟩)
    (cSE : PySem.W.codeIn K cdSE "Shape.__eq__" = true)
    (kSE : PySem.W.keepIn K (.ref fSE) = true)
    (mRE : PySem.W.findIn K (.ref R) "__eq__" = some (some (.ref fRE)))
    (hRE : PySem.W.isFn K (.ref fRE) = true)
    (lRE : K.lookup fRE = some ⟨ocRE, odRE, .func (PySem.W.fnOf "__eq__" "Root.__eq__" (defArgs sRootEq) (defBody sRootEq) (defScope sRootEq) .none kVRE dcRE pmRE anRE cdRE ctRE), slRE⟩)
    (cRE : PySem.W.codeIn K cdRE "Root.__eq__" = true)
    (kRE : PySem.W.keepIn K (.ref fRE) = true)
    (qS1 : PySem.W.notFirst K S (.ref S) = true)
    (qS2 : PySem.W.notFirst K S (.type "tuple") = true)
    (qS3 : PySem.W.findIn K (.ref S) "__class__" = some (some (.builtin "object.__class__")))
    (qS4 : PySem.W.mroIn K S (.type "object") = some true)
    (qS5 : PySem.W.kitOne K (.ref S) (.ref S) = some true)
    (qS6 : PySem.W.kitOne K (.type "tuple") (.ref S) = some false)
    (qR1 : PySem.W.notFirst K R (.ref R) = true)
    (qR2 : PySem.W.notFirst K R (.type "tuple") = true)
    (qR3 : PySem.W.findIn K (.ref R) "__class__" = some (some (.builtin "object.__class__")))
    (qR4 : PySem.W.mroIn K R (.type "object") = some true)
    (qR5 : PySem.W.kitOne K (.ref R) (.ref R) = some true)
    (qR6 : PySem.W.kitOne K (.type "tuple") (.ref R) = some false)
    (lE : K.lookup fE = some ⟨ocE, odE, .func (PySem.W.fnOf "__init__" "ManysidesError.__init__" (defArgs sInit) (defBody sInit) (defScope sInit) .none kVE dcE pmE anE cdE ctE), slE⟩)
    (cE : PySem.W.codeIn K cdE "ManysidesError.__init__" = true)
    (kE : PySem.W.keepIn K (.ref fE) = true)
    (tIE : PySem.W.typeIn K (.ref fE) = some (.type "function"))
    : ∃ fd : FuncData, (∀ (s : Shared) (v : Value), BindsTo s fd ⟨[v], []⟩ [("script", v)]) ∧ ∀ base : Heap, K.In base → base.Ns mainGlobals mg → FnOk l.prog w K mg base CX0 10 fa fd ["script"] (spLaw K) := by
  have e := hfa.symm.trans (PySem.W.mg_of X G a36)
  cases e
  refine ⟨PySem.W.fnOf "law" "law" (defArgs sLaw) (defBody sLaw) (defScope sLaw) .none kV36 dc36 pm36 an36 cd36 ct36, fun s v => .of_eq rfl, fun base _ _ => ?_⟩
  have F1 := fun_mk (st := sEncodeText) l1 c1 k1
  have F2 := fun_mk (st := sDecodeText) l2 c2 k2
  have F3 := fun_mk (st := sIsCode) l3 c3 k3
  have F4 := fun_mk (st := sCharacterOf) l4 c4 k4
  have F5 := fun_mk (st := sCheckShape) l5 c5 k5
  have F6 := fun_mk (st := sIsDim) l6 c6 k6
  have F7 := fun_mk (st := sIsAttr) l7 c7 k7
  have F8 := fun_mk (st := sIsSimpleName) l8 c8 k8
  have F9 := fun_mk (st := sSumOf) l9 c9 k9
  have F10 := fun_mk (st := sWriteFour) l10 c10 k10
  have F11 := fun_mk (st := sWriteName) l11 c11 k11
  have F12 := fun_mk (st := sEncodeRoot) l12 c12 k12
  have F13 := fun_mk (st := sWriteShape) l13 c13 k13
  have F14 := fun_mk (st := sWriteChunks) l14 c14 k14
  have F15 := fun_mk (st := sDecodeRoot) l15 c15 k15
  have F16 := fun_mk (st := sReadArrays) l16 c16 k16
  have F17 := fun_mk (st := sReadName) l17 c17 k17
  have F18 := fun_mk (st := sReadShape) l18 c18 k18
  have F19 := fun_mk (st := sReadDim) l19 c19 k19
  have F20 := fun_mk (st := sReadAttr) l20 c20 k20
  have F21 := fun_mk (st := sReadChunks) l21 c21 k21
  have F22 := fun_mk (st := sDraw) l22 c22 k22
  have F23 := fun_mk (st := sShape) l23 c23 k23
  have F24 := fun_mk (st := sLChunks) l24 c24 k24
  have F25 := fun_mk (st := sLRoot) l25 c25 k25
  have F26 := fun_mk (st := sLFail) l26 c26 k26
  have F27 := fun_mk (st := sLTake) l27 c27 k27
  have F28 := fun_mk (st := sLChar) l28 c28 k28
  have F29 := fun_mk (st := sNumber) l29 c29 k29
  have F30 := fun_mk (st := sLName) l30 c30 k30
  have F31 := fun_mk (st := sLReadShape) l31 c31 k31
  have F32 := fun_mk (st := sLReadChunks) l32 c32 k32
  have F33 := fun_mk (st := sLRead) l33 c33 k33
  have F34 := fun_mk (st := sLDue) l34 c34 k34
  have F35 := fun_mk (st := sTold) l35 c35 k35
  have F36 := fun_mk (st := sLaw) l36 c36 k36
  have b1 := F1.binds (ps := ["text"]) fun _ _ _ _ _ _ us hl => match us, hl with | [_], _ => rfl
  have b2 := F2.binds (ps := ["octets"]) fun _ _ _ _ _ _ us hl => match us, hl with | [_], _ => rfl
  have b3 := F3.binds (ps := ["octet"]) fun _ _ _ _ _ _ us hl => match us, hl with | [_], _ => rfl
  have b4 := F4.binds (ps := ["code"]) fun _ _ _ _ _ _ us hl => match us, hl with | [_], _ => rfl
  have b5 := F5.binds (ps := ["shape"]) fun _ _ _ _ _ _ us hl => match us, hl with | [_], _ => rfl
  have b6 := F6.binds (ps := ["dim"]) fun _ _ _ _ _ _ us hl => match us, hl with | [_], _ => rfl
  have b7 := F7.binds (ps := ["attr"]) fun _ _ _ _ _ _ us hl => match us, hl with | [_], _ => rfl
  have b8 := F8.binds (ps := ["text"]) fun _ _ _ _ _ _ us hl => match us, hl with | [_], _ => rfl
  have b9 := F9.binds (ps := ["octets"]) fun _ _ _ _ _ _ us hl => match us, hl with | [_], _ => rfl
  have b10 := F10.binds (ps := ["number"]) fun _ _ _ _ _ _ us hl => match us, hl with | [_], _ => rfl
  have b11 := F11.binds (ps := ["name"]) fun _ _ _ _ _ _ us hl => match us, hl with | [_], _ => rfl
  have b12 := F12.binds (ps := ["root"]) fun _ _ _ _ _ _ us hl => match us, hl with | [_], _ => rfl
  have b13 := F13.binds (ps := ["shape"]) fun _ _ _ _ _ _ us hl => match us, hl with | [_], _ => rfl
  have b14 := F14.binds (ps := ["chunks"]) fun _ _ _ _ _ _ us hl => match us, hl with | [_], _ => rfl
  have b15 := F15.binds (ps := ["octets"]) fun _ _ _ _ _ _ us hl => match us, hl with | [_], _ => rfl
  have b16 := F16.binds (ps := ["reader"]) fun _ _ _ _ _ _ us hl => match us, hl with | [_], _ => rfl
  have b17 := F17.binds (ps := ["reader"]) fun _ _ _ _ _ _ us hl => match us, hl with | [_], _ => rfl
  have b18 := F18.binds (ps := ["reader"]) fun _ _ _ _ _ _ us hl => match us, hl with | [_], _ => rfl
  have b19 := F19.binds (ps := ["reader"]) fun _ _ _ _ _ _ us hl => match us, hl with | [_], _ => rfl
  have b20 := F20.binds (ps := ["reader"]) fun _ _ _ _ _ _ us hl => match us, hl with | [_], _ => rfl
  have b21 := F21.binds (ps := ["reader", "shape"]) fun _ _ _ _ _ _ us hl => match us, hl with | [_, _], _ => rfl
  have b22 := F22.binds (ps := ["state", "script", "size"]) fun _ _ _ _ _ _ us hl => match us, hl with | [_, _, _], _ => rfl
  have b23 := F23.binds (ps := ["state", "script"]) fun _ _ _ _ _ _ us hl => match us, hl with | [_, _], _ => rfl
  have b24 := F24.binds (ps := ["shape"]) fun _ _ _ _ _ _ us hl => match us, hl with | [_], _ => rfl
  have b25 := F25.binds (ps := ["state", "script"]) fun _ _ _ _ _ _ us hl => match us, hl with | [_, _], _ => rfl
  have b26 := F26.binds (ps := ["job", "word", "place"]) fun _ _ _ _ _ _ us hl => match us, hl with | [_, _, _], _ => rfl
  have b27 := F27.binds (ps := ["job", "count"]) fun _ _ _ _ _ _ us hl => match us, hl with | [_, _], _ => rfl
  have b28 := F28.binds (ps := ["octet"]) fun _ _ _ _ _ _ us hl => match us, hl with | [_], _ => rfl
  have b29 := F29.binds (ps := ["job"]) fun _ _ _ _ _ _ us hl => match us, hl with | [_], _ => rfl
  have b30 := F30.binds (ps := ["job"]) fun _ _ _ _ _ _ us hl => match us, hl with | [_], _ => rfl
  have b31 := F31.binds (ps := ["job"]) fun _ _ _ _ _ _ us hl => match us, hl with | [_], _ => rfl
  have b32 := F32.binds (ps := ["job", "shape"]) fun _ _ _ _ _ _ us hl => match us, hl with | [_, _], _ => rfl
  have b33 := F33.binds (ps := ["job"]) fun _ _ _ _ _ _ us hl => match us, hl with | [_], _ => rfl
  have b34 := F34.binds (ps := ["octets"]) fun _ _ _ _ _ _ us hl => match us, hl with | [_], _ => rfl
  have b35 := F35.binds (ps := ["octets"]) fun _ _ _ _ _ _ us hl => match us, hl with | [_], _ => rfl
  have M : Nm mg := ⟨PySem.W.mg_none_of X G z1, PySem.W.mg_none_of X G z2, PySem.W.mg_none_of X G z3, PySem.W.mg_none_of X G z4, PySem.W.mg_none_of X G z5, PySem.W.mg_none_of X G z6, PySem.W.mg_none_of X G z7, PySem.W.mg_none_of X G z8, PySem.W.mg_none_of X G z9, PySem.W.mg_none_of X G z10, PySem.W.mg_none_of X G z11, PySem.W.mg_none_of X G z12, PySem.W.mg_none_of X G z13, PySem.W.mg_none_of X G z14, PySem.W.mg_none_of X G z15, PySem.W.mg_none_of X G z16, PySem.W.mg_none_of X G z17, PySem.W.mg_none_of X G z18⟩
  have hall := PySem.W.mg_none_of X G z19
  have go := PySem.W.mg_none_of X G z20
  have ke := PySem.W.mg_none_of X G z21
  have FE := fun_mk (st := sInit) lE cE kE
  have bE := FE.binds (ps := ["self", "place"]) fun _ _ _ _ _ _ us hl => match us, hl with | [_, _], _ => rfl
  have ER1 : ErrC K C1 fE "InvalidText" := ⟨⟨⟨_, _, _, _, _, _, _, _, _, _, _, _, _, _, _, xL1, rfl⟩, sa1, hs1, tyC1, kC1⟩, ⟨ga1, gg1, hs1, hd1, ha1, hn, ht, hm1⟩, ⟨rd1, fc1, tyC1, _, _, xL1, rfl⟩, ⟨ga1, gg1, hs1, hd1⟩, noP1, noN1, iC1, tIE⟩
  have gE1 := PySem.W.mg_of X G eC1
  have EX1 := PySem.W.exm_ref hs1 hd1 tyC1 sCC1
  have ER2 : ErrC K C2 fE "InvalidShape" := ⟨⟨⟨_, _, _, _, _, _, _, _, _, _, _, _, _, _, _, xL2, rfl⟩, sa2, hs2, tyC2, kC2⟩, ⟨ga2, gg2, hs2, hd2, ha2, hn, ht, hm2⟩, ⟨rd2, fc2, tyC2, _, _, xL2, rfl⟩, ⟨ga2, gg2, hs2, hd2⟩, noP2, noN2, iC2, tIE⟩
  have gE2 := PySem.W.mg_of X G eC2
  have EX2 := PySem.W.exm_ref hs2 hd2 tyC2 sCC2
  have ER3 : ErrC K C3 fE "Truncated" := ⟨⟨⟨_, _, _, _, _, _, _, _, _, _, _, _, _, _, _, xL3, rfl⟩, sa3, hs3, tyC3, kC3⟩, ⟨ga3, gg3, hs3, hd3, ha3, hn, ht, hm3⟩, ⟨rd3, fc3, tyC3, _, _, xL3, rfl⟩, ⟨ga3, gg3, hs3, hd3⟩, noP3, noN3, iC3, tIE⟩
  have gE3 := PySem.W.mg_of X G eC3
  have EX3 := PySem.W.exm_ref hs3 hd3 tyC3 sCC3
  have ER4 : ErrC K C4 fE "Damaged" := ⟨⟨⟨_, _, _, _, _, _, _, _, _, _, _, _, _, _, _, xL4, rfl⟩, sa4, hs4, tyC4, kC4⟩, ⟨ga4, gg4, hs4, hd4, ha4, hn, ht, hm4⟩, ⟨rd4, fc4, tyC4, _, _, xL4, rfl⟩, ⟨ga4, gg4, hs4, hd4⟩, noP4, noN4, iC4, tIE⟩
  have gE4 := PySem.W.mg_of X G eC4
  have EX4 := PySem.W.exm_ref hs4 hd4 tyC4 sCC4
  have EX43 := PySem.W.exm_ref hs3 hd3 tyC3 s43
  have FOI := fun_mk (st := sOctetReaderInit) lOI cOI kOI
  have bOI := FOI.binds (ps := ["self", "octets"]) fun _ _ _ _ _ _ us hl => match us, hl with | [_, _], _ => rfl
  have FSI := fun_mk (st := sShInit) lSI cSI kSI
  have bSI := FSI.binds (ps := ["self", "dims", "attrs"]) fun _ _ _ _ _ _ us hl => match us, hl with | [_, _, _], _ => rfl
  have FRI := fun_mk (st := sRootInit) lRI cRI kRI
  have bRI := FRI.binds (ps := ["self", "upcoming", "data", "versions"]) fun _ _ _ _ _ _ us hl => match us, hl with | [_, _, _, _], _ => rfl
  have FOe := fun_mk (st := sOctetReaderIsAtEnd) lOe cOe kOe
  have bOe := FOe.binds (ps := ["self"]) fun _ _ _ _ _ _ us hl => match us, hl with | [_], _ => rfl
  have MOe : Meth K O "is_at_end" fOe := ⟨mOe, hOe, kOe⟩
  have FOn := fun_mk (st := sOctetReaderNextOctets) lOn cOn kOn
  have bOn := FOn.binds (ps := ["self", "count"]) fun _ _ _ _ _ _ us hl => match us, hl with | [_, _], _ => rfl
  have MOn : Meth K O "next_octets" fOn := ⟨mOn, hOn, kOn⟩
  have FOo := fun_mk (st := sOctetReaderNextOctetOf) lOo cOo kOo
  have bOo := FOo.binds (ps := ["self", "allowed"]) fun _ _ _ _ _ _ us hl => match us, hl with | [_, _], _ => rfl
  have MOo : Meth K O "next_octet_of" fOo := ⟨mOo, hOo, kOo⟩
  have FO4 := fun_mk (st := sOctetReaderNextFour) lO4 cO4 kO4
  have bO4 := FO4.binds (ps := ["self"]) fun _ _ _ _ _ _ us hl => match us, hl with | [_], _ => rfl
  have MO4 : Meth K O "next_four" fO4 := ⟨mO4, hO4, kO4⟩
  have FOi := fun_mk (st := sOctetReaderNextFourIn) lOi cOi kOi
  have bOi := FOi.binds (ps := ["self", "least", "greatest"]) fun _ _ _ _ _ _ us hl => match us, hl with | [_, _, _], _ => rfl
  have MOi : Meth K O "next_four_in" fOi := ⟨mOi, hOi, kOi⟩
  have FSE := fun_mk (st := sShEq) lSE cSE kSE
  have bSE := FSE.binds (ps := ["self", "other"]) fun _ _ _ _ _ _ us hl => match us, hl with | [_, _], _ => rfl
  have FRE := fun_mk (st := sRootEq) lRE cRE kRE
  have bRE := FRE.binds (ps := ["self", "other"]) fun _ _ _ _ _ _ us hl => match us, hl with | [_, _], _ => rfl
  have IS : IsiC K S fSE := ⟨mSE, hSE, qS1, qS2, qS3, hn, ht, qS4, qS5, qS6⟩
  have IR : IsiC K R fRE := ⟨mRE, hRE, qR1, qR2, qR3, hn, ht, qR4, qR5, qR6⟩
  have TO : KC K O fOI ORf := ⟨⟨xO1, xO2, xO3, xO4⟩, ⟨xO5, xO6, xO7, xO8⟩, show ∀ f ∈ (["octets", "at"] : List Str), NoAttr K O f from List.forall_mem_cons.mpr ⟨xOn0, List.forall_mem_cons.mpr ⟨xOn1, fun _ h => absurd h List.not_mem_nil⟩⟩⟩
  have gO := PySem.W.mg_of X G xOe
  have TS : KC K S fSI SHf := ⟨⟨xS1, xS2, xS3, xS4⟩, ⟨xS5, xS6, xS7, xS8⟩, show ∀ f ∈ (["dims", "attrs"] : List Str), NoAttr K S f from List.forall_mem_cons.mpr ⟨xSn0, List.forall_mem_cons.mpr ⟨xSn1, fun _ h => absurd h List.not_mem_nil⟩⟩⟩
  have gS := PySem.W.mg_of X G xSe
  have TR : KC K R fRI RHf := ⟨⟨xR1, xR2, xR3, xR4⟩, ⟨xR5, xR6, xR7, xR8⟩, show ∀ f ∈ (["upcoming", "data", "versions"] : List Str), NoAttr K R f from List.forall_mem_cons.mpr ⟨xRn0, List.forall_mem_cons.mpr ⟨xRn1, List.forall_mem_cons.mpr ⟨xRn2, fun _ h => absurd h List.not_mem_nil⟩⟩⟩⟩
  have gR := PySem.W.mg_of X G xRe
  have C1' : Ct mg := ⟨⟨_, PySem.W.mg_of X G g1, ⟨_, rfl⟩⟩⟩
  have C2' : Ct2 K mg := ⟨⟨_, PySem.W.mg_of X G g2, ⟨_, rfl⟩⟩, kK, PySem.W.mg_of X G eKK, fun _ => .inr ⟨_, _, _, lKK, rfl, rfl, (by show 3 ≤ sizeLine; decide), .cons ⟨_, rfl⟩ (.cons ⟨_, rfl⟩ (.cons ⟨_, rfl⟩ .nil))⟩, _, lKK, rfl, rfl⟩
  have C3' : Ct3 K mg := ⟨kF, PySem.W.mg_of X G eFF, fun _ => .inr ⟨_, _, _, lFF, rfl, rfl, (by show 2 ≤ sizeLine; decide), .cons ⟨_, rfl⟩ (.cons ⟨_, rfl⟩ .nil)⟩⟩
  have C4' : Ct4 mg := ⟨⟨_, PySem.W.mg_of X G g4, ⟨_, rfl⟩⟩, ⟨_, PySem.W.mg_of X G g5, ⟨_, rfl⟩⟩, ⟨_, PySem.W.mg_of X G g6, ⟨_, rfl⟩⟩, ⟨_, PySem.W.mg_of X G g7, ⟨_, rfl⟩⟩, ⟨_, PySem.W.mg_of X G g8, ⟨_, rfl⟩⟩, ⟨_, PySem.W.mg_of X G g9, ⟨_, rfl⟩⟩, ⟨_, PySem.W.mg_of X G g10, ⟨_, rfl⟩⟩, ⟨_, PySem.W.mg_of X G g11, ⟨_, rfl⟩⟩⟩
  have C5' : Ct5 mg := ⟨⟨_, PySem.W.mg_of X G g12, ⟨_, rfl⟩⟩, ⟨_, PySem.W.mg_of X G g13, ⟨_, rfl⟩⟩, ⟨_, PySem.W.mg_of X G g14, ⟨_, rfl⟩⟩, ⟨_, PySem.W.mg_of X G g15, ⟨_, rfl⟩⟩⟩
  have C6' : Ct6 mg := ⟨⟨_, PySem.W.mg_of X G g3, ⟨_, rfl⟩⟩⟩
  let ZE : EF l.prog w K mg base C3 C4 := ⟨_, _, ER3, ER4, gE3, gE4, ok_init FE, bE⟩
  have GNo := ok_nx (P := l.prog) (w := w) (mg := mg) (base := base) FOn M TO ZE
  have G4o := ok_n4x FO4 TO GNo bOn MOn
  have RX : RFX l.prog w K mg base O C3 C4 := ⟨_, _, _, _, _, _, _, _, _, TO, ZE, GNo, bOn, MOn, ok_ox FOo TO ZE GNo bOn MOn, bOo, MOo, G4o, bO4, MO4, ok_ix FOi TO ZE G4o bO4 MO4, bOi, MOi, ok_initH FE⟩
  have GSi := ok_simple (P := l.prog) (w := w) (mg := mg) (base := base) F8 M C4'
  have GDe := ok_dec (P := l.prog) (w := w) (mg := mg) (base := base) F2 M C4' F3 b3 (PySem.W.mg_of X G a3) F4 b4 (PySem.W.mg_of X G a4) FE bE ER1 gE1
  have GRN := ok_rn F17 RX GDe k2 b2 (PySem.W.mg_of X G a2) GSi k8 b8 (PySem.W.mg_of X G a8) gE1 EX1
  have GRD := ok_rdm F19 RX C2' GRN k17 b17 (PySem.W.mg_of X G a17)
  have GRA := ok_ra F20 RX C2' GRN k17 b17 (PySem.W.mg_of X G a17)
  have GID := ok_isDim F6 C5' GSi k8 b8 (PySem.W.mg_of X G a8)
  have GIA := ok_isAttr F7 C2' GSi k8 b8 (PySem.W.mg_of X G a8)
  have GCk := ok_check F5 M C5' TS GID k6 b6 (PySem.W.mg_of X G a6) GIA k7 b7 (PySem.W.mg_of X G a7) FE bE ER2 gE2
  have GSI := ok_shI (P := l.prog) (w := w) (mg := mg) (base := base) FSI TS
  have GRS := ok_rs F18 M RX TS GSI bSI gS GRD k19 b19 (PySem.W.mg_of X G a19) GRA k20 b20 (PySem.W.mg_of X G a20) GCk k5 b5 (PySem.W.mg_of X G a5) gE2 EX2
  have GRC := ok_rc F21 M hall RX TS
  have GRAs := ok_ras F16 M RX GRN k17 b17 (PySem.W.mg_of X G a17) GRS k18 b18 (PySem.W.mg_of X G a18) GRC k21 b21 (PySem.W.mg_of X G a21)
  have GSu := ok_sum (P := l.prog) (w := w) (mg := mg) (base := base) F9 C1'
  have GRI := ok_ri (P := l.prog) (w := w) (mg := mg) (base := base) (C := S) FRI TR
  have GDR := ok_dr (C := S) F15 M C3' C6' RX TO (ok_orI FOI M TO) bOI gO (ok_end FOe M TO) bOe MOe GRAs k16 b16 (PySem.W.mg_of X G a16) GSu k9 b9 (PySem.W.mg_of X G a9) TR GRI bRI gR
  have GER := ok_er (P := l.prog) (w := w) (mg := mg) (base := base) F12 M TR C3' ⟨_, _, _, _, _, _, _, _, _, _, (ok_w4 F10), b10, k10, (PySem.W.mg_of X G a10), (ok_wn F11 M go F1 b1 (PySem.W.mg_of X G a1)), b11, k11, (PySem.W.mg_of X G a11), (ok_ws F13 M go TS C2' F10 b10 (PySem.W.mg_of X G a10) F11 b11 (PySem.W.mg_of X G a11) F1 b1 (PySem.W.mg_of X G a1)), b13, k13, (PySem.W.mg_of X G a13), (ok_wc F14 M F10 b10 (PySem.W.mg_of X G a10)), b14, k14, (PySem.W.mg_of X G a14), GSu, b9, k9, (PySem.W.mg_of X G a9)⟩
  have GDr := ok_draw (P := l.prog) (w := w) (mg := mg) (base := base) F22 M
  have GLSh := ok_lsh F23 M TS GSI bSI gS GDr k22 b22 (PySem.W.mg_of X G a22)
  have GLC := ok_lc' (P := l.prog) (w := w) (mg := mg) (base := base) F24 M TS
  have GLR := ok_ro F25 M GDr k22 b22 (PySem.W.mg_of X G a22) GLSh k23 b23 (PySem.W.mg_of X G a23) GLC k24 b24 (PySem.W.mg_of X G a24) TR GRI bRI gR
  have GFa := ok_fail (P := l.prog) (w := w) (mg := mg) (base := base) F26 ke
  have GTa := ok_take F27 M GFa k26 b26 (PySem.W.mg_of X G a26)
  have GNu := ok_number F29 GTa k27 b27 (PySem.W.mg_of X G a27)
  have GNa := ok_lname F30 GTa k27 b27 (PySem.W.mg_of X G a27) GFa k26 b26 (PySem.W.mg_of X G a26) (ok_lchar F28 go) k28 b28 (PySem.W.mg_of X G a28) GSi k8 b8 (PySem.W.mg_of X G a8)
  have LL : LF l.prog w K mg base := ⟨_, _, _, _, _, _, _, _, GFa, k26, b26, (PySem.W.mg_of X G a26), GTa, k27, b27, (PySem.W.mg_of X G a27), GNu, k29, b29, (PySem.W.mg_of X G a29), GNa, k30, b30, (PySem.W.mg_of X G a30)⟩
  have GLS := ok_lrs F31 M LL TS GSI bSI gS GCk k5 b5 (PySem.W.mg_of X G a5) gE2 EX2
  have GLK := ok_lrc F32 M LL TS
  have GLD := ok_lr F33 M LL GLS k31 b31 (PySem.W.mg_of X G a31) GLK k32 b32 (PySem.W.mg_of X G a32) GSu k9 b9 (PySem.W.mg_of X G a9) TR GRI bRI gR
  have GDu := ok_due F34 ke GLD k33 b33 (PySem.W.mg_of X G a33)
  have GTo := ok_told F35 ZE EX3 EX4 EX43 GDR k15 b15 (PySem.W.mg_of X G a15)
  have GRE := ok_req (P := l.prog) (w := w) (mg := mg) (base := base) FRE M TR IR gR IS (ok_shEq FSE M TS IS gS) bSE
  exact ok_law (CR := R) (C := S) (fS := f9) (dS := PySem.W.fnOf "sum_of" "sum_of" (defArgs sSumOf) (defBody sSumOf) (defScope sSumOf) .none kV9 dc9 pm9 an9 cd9 ct9) F36 M GDr k22 b22 (PySem.W.mg_of X G a22) GLR k25 b25 (PySem.W.mg_of X G a25) GSu k9 b9 (PySem.W.mg_of X G a9) GER k12 b12 (PySem.W.mg_of X G a12) GTo k35 b35 (PySem.W.mg_of X G a35) GDu k34 b34 (PySem.W.mg_of X G a34) IR GRE bRE
end K2
open PySem PySem.W PyProof.Rows
set_option maxRecDepth 100000 in
set_option maxHeartbeats 0 in
theorem PySem.Challenge.cw_manysides_k62_any_octets_as_a_root_holds : PySem.Challenge.rw_manysides_k62_any_octets_as_a_root.Holds := by
  w_on; o_law; k_head; (case hw => w_witness2)
  k_fill
  refine L2.walk_of (l := PySem.Challenge.rw_manysides_k62_any_octets_as_a_root) (n := 63) (k := 10) (x := "script") (CX := fun _ => L2.CX0) (sp := fun w => K2.spLaw _) rfl (by decide) rfl ⟨rfl, by decide, by decide⟩ (fun w h Y => PySem.W.kIn_of Y) ?F (fun _ _ a ns hl _ hS => ⟨a, ns, rfl, hS, hl, fun _ => rfl⟩) (fun _ _ _ _ _ h => h)
  case F =>
    intro w mg fa h KX G hmg
    refine' K2.all_mk KX G hmg ?a1 ?l1 ?c1 ?k1 ?a2 ?l2 ?c2 ?k2 ?a3 ?l3 ?c3 ?k3 ?a4 ?l4 ?c4 ?k4 ?a5 ?l5 ?c5 ?k5 ?a6 ?l6 ?c6 ?k6 ?a7 ?l7 ?c7 ?k7 ?a8 ?l8 ?c8 ?k8 ?a9 ?l9 ?c9 ?k9 ?a10 ?l10 ?c10 ?k10 ?a11 ?l11 ?c11 ?k11 ?a12 ?l12 ?c12 ?k12 ?a13 ?l13 ?c13 ?k13 ?a14 ?l14 ?c14 ?k14 ?a15 ?l15 ?c15 ?k15 ?a16 ?l16 ?c16 ?k16 ?a17 ?l17 ?c17 ?k17 ?a18 ?l18 ?c18 ?k18 ?a19 ?l19 ?c19 ?k19 ?a20 ?l20 ?c20 ?k20 ?a21 ?l21 ?c21 ?k21 ?a22 ?l22 ?c22 ?k22 ?a23 ?l23 ?c23 ?k23 ?a24 ?l24 ?c24 ?k24 ?a25 ?l25 ?c25 ?k25 ?a26 ?l26 ?c26 ?k26 ?a27 ?l27 ?c27 ?k27 ?a28 ?l28 ?c28 ?k28 ?a29 ?l29 ?c29 ?k29 ?a30 ?l30 ?c30 ?k30 ?a31 ?l31 ?c31 ?k31 ?a32 ?l32 ?c32 ?k32 ?a33 ?l33 ?c33 ?k33 ?a34 ?l34 ?c34 ?k34 ?a35 ?l35 ?c35 ?k35 ?a36 ?l36 ?c36 ?k36 ?z1 ?z2 ?z3 ?z4 ?z5 ?z6 ?z7 ?z8 ?z9 ?z10 ?z11 ?z12 ?z13 ?z14 ?z15 ?z16 ?z17 ?z18 ?z19 ?z20 ?z21 ?g1 ?g2 ?g3 ?g4 ?g5 ?g6 ?g7 ?g8 ?g9 ?g10 ?g11 ?g12 ?g13 ?g14 ?g15 ?eKK ?lKK ?eFF ?lFF ?xOe ?xO1 ?xO2 ?xO3 ?xO4 ?xO5 ?xO6 ?xO7 ?xO8 ?xOn0 ?xOn1 ?lOI ?cOI ?kOI ?xSe ?xS1 ?xS2 ?xS3 ?xS4 ?xS5 ?xS6 ?xS7 ?xS8 ?xSn0 ?xSn1 ?lSI ?cSI ?kSI ?xRe ?xR1 ?xR2 ?xR3 ?xR4 ?xR5 ?xR6 ?xR7 ?xR8 ?xRn0 ?xRn1 ?xRn2 ?lRI ?cRI ?kRI ?hn ?ht ?eM ?eC1 ?xL1 ?sa1 ?ga1 ?gg1 ?hs1 ?hd1 ?ha1 ?hm1 ?tyC1 ?kC1 ?rd1 ?fc1 ?noP1 ?noN1 ?iC1 ?sCC1 ?eC2 ?xL2 ?sa2 ?ga2 ?gg2 ?hs2 ?hd2 ?ha2 ?hm2 ?tyC2 ?kC2 ?rd2 ?fc2 ?noP2 ?noN2 ?iC2 ?sCC2 ?eC3 ?xL3 ?sa3 ?ga3 ?gg3 ?hs3 ?hd3 ?ha3 ?hm3 ?tyC3 ?kC3 ?rd3 ?fc3 ?noP3 ?noN3 ?iC3 ?sCC3 ?eC4 ?xL4 ?sa4 ?ga4 ?gg4 ?hs4 ?hd4 ?ha4 ?hm4 ?tyC4 ?kC4 ?rd4 ?fc4 ?noP4 ?noN4 ?iC4 ?sCC4 ?s43 ?mOe ?hOe ?lOe ?cOe ?kOe ?mOn ?hOn ?lOn ?cOn ?kOn ?mOo ?hOo ?lOo ?cOo ?kOo ?mO4 ?hO4 ?lO4 ?cO4 ?kO4 ?mOi ?hOi ?lOi ?cOi ?kOi ?mSE ?hSE ?lSE ?cSE ?kSE ?mRE ?hRE ?lRE ?cRE ?kRE ?qS1 ?qS2 ?qS3 ?qS4 ?qS5 ?qS6 ?qR1 ?qR2 ?qR3 ?qR4 ?qR5 ?qR6 ?lE ?cE ?kE ?tIE
    (case a1 => k_is)
    (case l1 => k_is)
    (case c1 => k_is)
    (case k1 => k_is)
    (case a2 => k_is)
    (case l2 => k_is)
    (case c2 => k_is)
    (case k2 => k_is)
    (case a3 => k_is)
    (case l3 => k_is)
    (case c3 => k_is)
    (case k3 => k_is)
    (case a4 => k_is)
    (case l4 => k_is)
    (case c4 => k_is)
    (case k4 => k_is)
    (case a5 => k_is)
    (case l5 => k_is)
    (case c5 => k_is)
    (case k5 => k_is)
    (case a6 => k_is)
    (case l6 => k_is)
    (case c6 => k_is)
    (case k6 => k_is)
    (case a7 => k_is)
    (case l7 => k_is)
    (case c7 => k_is)
    (case k7 => k_is)
    (case a8 => k_is)
    (case l8 => k_is)
    (case c8 => k_is)
    (case k8 => k_is)
    (case a9 => k_is)
    (case l9 => k_is)
    (case c9 => k_is)
    (case k9 => k_is)
    (case a10 => k_is)
    (case l10 => k_is)
    (case c10 => k_is)
    (case k10 => k_is)
    (case a11 => k_is)
    (case l11 => k_is)
    (case c11 => k_is)
    (case k11 => k_is)
    (case a12 => k_is)
    (case l12 => k_is)
    (case c12 => k_is)
    (case k12 => k_is)
    (case a13 => k_is)
    (case l13 => k_is)
    (case c13 => k_is)
    (case k13 => k_is)
    (case a14 => k_is)
    (case l14 => k_is)
    (case c14 => k_is)
    (case k14 => k_is)
    (case a15 => k_is)
    (case l15 => k_is)
    (case c15 => k_is)
    (case k15 => k_is)
    (case a16 => k_is)
    (case l16 => k_is)
    (case c16 => k_is)
    (case k16 => k_is)
    (case a17 => k_is)
    (case l17 => k_is)
    (case c17 => k_is)
    (case k17 => k_is)
    (case a18 => k_is)
    (case l18 => k_is)
    (case c18 => k_is)
    (case k18 => k_is)
    (case a19 => k_is)
    (case l19 => k_is)
    (case c19 => k_is)
    (case k19 => k_is)
    (case a20 => k_is)
    (case l20 => k_is)
    (case c20 => k_is)
    (case k20 => k_is)
    (case a21 => k_is)
    (case l21 => k_is)
    (case c21 => k_is)
    (case k21 => k_is)
    (case a22 => k_is)
    (case l22 => k_is)
    (case c22 => k_is)
    (case k22 => k_is)
    (case a23 => k_is)
    (case l23 => k_is)
    (case c23 => k_is)
    (case k23 => k_is)
    (case a24 => k_is)
    (case l24 => k_is)
    (case c24 => k_is)
    (case k24 => k_is)
    (case a25 => k_is)
    (case l25 => k_is)
    (case c25 => k_is)
    (case k25 => k_is)
    (case a26 => k_is)
    (case l26 => k_is)
    (case c26 => k_is)
    (case k26 => k_is)
    (case a27 => k_is)
    (case l27 => k_is)
    (case c27 => k_is)
    (case k27 => k_is)
    (case a28 => k_is)
    (case l28 => k_is)
    (case c28 => k_is)
    (case k28 => k_is)
    (case a29 => k_is)
    (case l29 => k_is)
    (case c29 => k_is)
    (case k29 => k_is)
    (case a30 => k_is)
    (case l30 => k_is)
    (case c30 => k_is)
    (case k30 => k_is)
    (case a31 => k_is)
    (case l31 => k_is)
    (case c31 => k_is)
    (case k31 => k_is)
    (case a32 => k_is)
    (case l32 => k_is)
    (case c32 => k_is)
    (case k32 => k_is)
    (case a33 => k_is)
    (case l33 => k_is)
    (case c33 => k_is)
    (case k33 => k_is)
    (case a34 => k_is)
    (case l34 => k_is)
    (case c34 => k_is)
    (case k34 => k_is)
    (case a35 => k_is)
    (case l35 => k_is)
    (case c35 => k_is)
    (case k35 => k_is)
    (case a36 => k_is)
    (case l36 => k_is)
    (case c36 => k_is)
    (case k36 => k_is)
    (case z1 => k_is)
    (case z2 => k_is)
    (case z3 => k_is)
    (case z4 => k_is)
    (case z5 => k_is)
    (case z6 => k_is)
    (case z7 => k_is)
    (case z8 => k_is)
    (case z9 => k_is)
    (case z10 => k_is)
    (case z11 => k_is)
    (case z12 => k_is)
    (case z13 => k_is)
    (case z14 => k_is)
    (case z15 => k_is)
    (case z16 => k_is)
    (case z17 => k_is)
    (case z18 => k_is)
    (case z19 => k_is)
    (case z20 => k_is)
    (case z21 => k_is)
    (case g1 => k_is)
    (case g2 => k_is)
    (case g3 => k_is)
    (case g4 => k_is)
    (case g5 => k_is)
    (case g6 => k_is)
    (case g7 => k_is)
    (case g8 => k_is)
    (case g9 => k_is)
    (case g10 => k_is)
    (case g11 => k_is)
    (case g12 => k_is)
    (case g13 => k_is)
    (case g14 => k_is)
    (case g15 => k_is)
    (case eKK => first | k_is | kit_is | rfl)
    (case lKK => first | k_is | kit_is | rfl)
    (case eFF => first | k_is | kit_is | rfl)
    (case lFF => first | k_is | kit_is | rfl)
    (case xOe => first | k_is | kit_is | rfl)
    (case xO1 => first | k_is | kit_is | rfl)
    (case xO2 => first | k_is | kit_is | rfl)
    (case xO3 => first | k_is | kit_is | rfl)
    (case xO4 => first | k_is | kit_is | rfl)
    (case xO5 => first | k_is | kit_is | rfl)
    (case xO6 => first | k_is | kit_is | rfl)
    (case xO7 => first | k_is | kit_is | rfl)
    (case xO8 => first | k_is | kit_is | rfl)
    (case xOn0 => first | k_is | kit_is | rfl)
    (case xOn1 => first | k_is | kit_is | rfl)
    (case lOI => first | k_is | kit_is | rfl)
    (case cOI => first | k_is | kit_is | rfl)
    (case kOI => first | k_is | kit_is | rfl)
    (case xSe => first | k_is | kit_is | rfl)
    (case xS1 => first | k_is | kit_is | rfl)
    (case xS2 => first | k_is | kit_is | rfl)
    (case xS3 => first | k_is | kit_is | rfl)
    (case xS4 => first | k_is | kit_is | rfl)
    (case xS5 => first | k_is | kit_is | rfl)
    (case xS6 => first | k_is | kit_is | rfl)
    (case xS7 => first | k_is | kit_is | rfl)
    (case xS8 => first | k_is | kit_is | rfl)
    (case xSn0 => first | k_is | kit_is | rfl)
    (case xSn1 => first | k_is | kit_is | rfl)
    (case lSI => first | k_is | kit_is | rfl)
    (case cSI => first | k_is | kit_is | rfl)
    (case kSI => first | k_is | kit_is | rfl)
    (case xRe => first | k_is | kit_is | rfl)
    (case xR1 => first | k_is | kit_is | rfl)
    (case xR2 => first | k_is | kit_is | rfl)
    (case xR3 => first | k_is | kit_is | rfl)
    (case xR4 => first | k_is | kit_is | rfl)
    (case xR5 => first | k_is | kit_is | rfl)
    (case xR6 => first | k_is | kit_is | rfl)
    (case xR7 => first | k_is | kit_is | rfl)
    (case xR8 => first | k_is | kit_is | rfl)
    (case xRn0 => first | k_is | kit_is | rfl)
    (case xRn1 => first | k_is | kit_is | rfl)
    (case xRn2 => first | k_is | kit_is | rfl)
    (case lRI => first | k_is | kit_is | rfl)
    (case cRI => first | k_is | kit_is | rfl)
    (case kRI => first | k_is | kit_is | rfl)
    (case hn => first | k_is | kit_is | rfl)
    (case ht => first | k_is | kit_is | rfl)
    (case eM => first | k_is | kit_is | rfl)
    (case eC1 => first | k_is | kit_is | rfl)
    (case xL1 => first | k_is | kit_is | rfl)
    (case sa1 => first | k_is | kit_is | rfl)
    (case ga1 => first | k_is | kit_is | rfl)
    (case gg1 => first | k_is | kit_is | rfl)
    (case hs1 => first | k_is | kit_is | rfl)
    (case hd1 => first | k_is | kit_is | rfl)
    (case ha1 => first | k_is | kit_is | rfl)
    (case hm1 => first | k_is | kit_is | rfl)
    (case tyC1 => first | k_is | kit_is | rfl)
    (case kC1 => first | k_is | kit_is | rfl)
    (case rd1 => first | k_is | kit_is | rfl)
    (case fc1 => first | k_is | kit_is | rfl)
    (case noP1 => first | k_is | kit_is | rfl)
    (case noN1 => first | k_is | kit_is | rfl)
    (case iC1 => first | k_is | kit_is | rfl)
    (case sCC1 => first | k_is | kit_is | rfl)
    (case eC2 => first | k_is | kit_is | rfl)
    (case xL2 => first | k_is | kit_is | rfl)
    (case sa2 => first | k_is | kit_is | rfl)
    (case ga2 => first | k_is | kit_is | rfl)
    (case gg2 => first | k_is | kit_is | rfl)
    (case hs2 => first | k_is | kit_is | rfl)
    (case hd2 => first | k_is | kit_is | rfl)
    (case ha2 => first | k_is | kit_is | rfl)
    (case hm2 => first | k_is | kit_is | rfl)
    (case tyC2 => first | k_is | kit_is | rfl)
    (case kC2 => first | k_is | kit_is | rfl)
    (case rd2 => first | k_is | kit_is | rfl)
    (case fc2 => first | k_is | kit_is | rfl)
    (case noP2 => first | k_is | kit_is | rfl)
    (case noN2 => first | k_is | kit_is | rfl)
    (case iC2 => first | k_is | kit_is | rfl)
    (case sCC2 => first | k_is | kit_is | rfl)
    (case eC3 => first | k_is | kit_is | rfl)
    (case xL3 => first | k_is | kit_is | rfl)
    (case sa3 => first | k_is | kit_is | rfl)
    (case ga3 => first | k_is | kit_is | rfl)
    (case gg3 => first | k_is | kit_is | rfl)
    (case hs3 => first | k_is | kit_is | rfl)
    (case hd3 => first | k_is | kit_is | rfl)
    (case ha3 => first | k_is | kit_is | rfl)
    (case hm3 => first | k_is | kit_is | rfl)
    (case tyC3 => first | k_is | kit_is | rfl)
    (case kC3 => first | k_is | kit_is | rfl)
    (case rd3 => first | k_is | kit_is | rfl)
    (case fc3 => first | k_is | kit_is | rfl)
    (case noP3 => first | k_is | kit_is | rfl)
    (case noN3 => first | k_is | kit_is | rfl)
    (case iC3 => first | k_is | kit_is | rfl)
    (case sCC3 => first | k_is | kit_is | rfl)
    (case eC4 => first | k_is | kit_is | rfl)
    (case xL4 => first | k_is | kit_is | rfl)
    (case sa4 => first | k_is | kit_is | rfl)
    (case ga4 => first | k_is | kit_is | rfl)
    (case gg4 => first | k_is | kit_is | rfl)
    (case hs4 => first | k_is | kit_is | rfl)
    (case hd4 => first | k_is | kit_is | rfl)
    (case ha4 => first | k_is | kit_is | rfl)
    (case hm4 => first | k_is | kit_is | rfl)
    (case tyC4 => first | k_is | kit_is | rfl)
    (case kC4 => first | k_is | kit_is | rfl)
    (case rd4 => first | k_is | kit_is | rfl)
    (case fc4 => first | k_is | kit_is | rfl)
    (case noP4 => first | k_is | kit_is | rfl)
    (case noN4 => first | k_is | kit_is | rfl)
    (case iC4 => first | k_is | kit_is | rfl)
    (case sCC4 => first | k_is | kit_is | rfl)
    (case s43 => first | k_is | kit_is | rfl)
    (case mOe => first | k_is | kit_is | rfl)
    (case hOe => first | k_is | kit_is | rfl)
    (case lOe => first | k_is | kit_is | rfl)
    (case cOe => first | k_is | kit_is | rfl)
    (case kOe => first | k_is | kit_is | rfl)
    (case mOn => first | k_is | kit_is | rfl)
    (case hOn => first | k_is | kit_is | rfl)
    (case lOn => first | k_is | kit_is | rfl)
    (case cOn => first | k_is | kit_is | rfl)
    (case kOn => first | k_is | kit_is | rfl)
    (case mOo => first | k_is | kit_is | rfl)
    (case hOo => first | k_is | kit_is | rfl)
    (case lOo => first | k_is | kit_is | rfl)
    (case cOo => first | k_is | kit_is | rfl)
    (case kOo => first | k_is | kit_is | rfl)
    (case mO4 => first | k_is | kit_is | rfl)
    (case hO4 => first | k_is | kit_is | rfl)
    (case lO4 => first | k_is | kit_is | rfl)
    (case cO4 => first | k_is | kit_is | rfl)
    (case kO4 => first | k_is | kit_is | rfl)
    (case mOi => first | k_is | kit_is | rfl)
    (case hOi => first | k_is | kit_is | rfl)
    (case lOi => first | k_is | kit_is | rfl)
    (case cOi => first | k_is | kit_is | rfl)
    (case kOi => first | k_is | kit_is | rfl)
    (case mSE => first | k_is | kit_is | rfl)
    (case hSE => first | k_is | kit_is | rfl)
    (case lSE => first | k_is | kit_is | rfl)
    (case cSE => first | k_is | kit_is | rfl)
    (case kSE => first | k_is | kit_is | rfl)
    (case mRE => first | k_is | kit_is | rfl)
    (case hRE => first | k_is | kit_is | rfl)
    (case lRE => first | k_is | kit_is | rfl)
    (case cRE => first | k_is | kit_is | rfl)
    (case kRE => first | k_is | kit_is | rfl)
    (case qS1 => first | k_is | kit_is | rfl)
    (case qS2 => first | k_is | kit_is | rfl)
    (case qS3 => first | k_is | kit_is | rfl)
    (case qS4 => first | k_is | kit_is | rfl)
    (case qS5 => first | k_is | kit_is | rfl)
    (case qS6 => first | k_is | kit_is | rfl)
    (case qR1 => first | k_is | kit_is | rfl)
    (case qR2 => first | k_is | kit_is | rfl)
    (case qR3 => first | k_is | kit_is | rfl)
    (case qR4 => first | k_is | kit_is | rfl)
    (case qR5 => first | k_is | kit_is | rfl)
    (case qR6 => first | k_is | kit_is | rfl)
    (case lE => first | k_is | kit_is | rfl)
    (case cE => first | k_is | kit_is | rfl)
    (case kE => first | k_is | kit_is | rfl)
    (case tIE => first | k_is | kit_is | rfl)
