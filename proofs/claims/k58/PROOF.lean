import PyProof.Rows.All
import Wide.All
import OpenK.AllK
import Wide.FinOn
import HandS.Conv
import HandS.Evl
import HandS.Exc
import HandS.ForExc
import HandS.ForMost
import HandS.IsInst
import HandS.List
import HandS.OwnEq
import HandS.Replace
import HandS.SlotsOwn
import HandS.Star
import HandS.Steps
import HandS.StrMore
import HandS.Strs
import HandS.Style
import HandS.Text
import HandS.TupAny
import HandS.TupLe
import HandS.Walk
import HandS.WideBits
import KE.GoesEnum
import KE.GoesMore
import KE.GoesZip
import PySem.Challenge.RW_manysides_k58_roots_as_octets
set_option Elab.async false
set_option linter.all false
set_option maxRecDepth 100000
set_option maxHeartbeats 4000000
namespace K2
open PySem L2
def top (i : Nat) : Stmt := PySem.Challenge.pw_manysides_k58_roots_as_octets.main.body.getD i (.Pass ⟨0, 0, 0, 0⟩)
abbrev sWall : Stmt := top 0
abbrev sInit : Stmt := inClass (top 2) 0
abbrev sEncodeText : Stmt := top 13
abbrev sDecodeText : Stmt := top 14
abbrev sIsCode : Stmt := top 15
abbrev sCharacterOf : Stmt := top 16
abbrev sOctetReaderInit : Stmt := inClass (top 19) 0
abbrev sOctetReaderIsAtEnd : Stmt := inClass (top 19) 1
abbrev sOctetReaderNextOctets : Stmt := inClass (top 19) 2
abbrev sOctetReaderNextOctetOf : Stmt := inClass (top 19) 3
abbrev sOctetReaderNextNumber : Stmt := inClass (top 19) 4
abbrev sOctetReaderNextNumberIn : Stmt := inClass (top 19) 5
abbrev sOctetReaderNextSigned : Stmt := inClass (top 19) 6
abbrev sOctetReaderNextFour : Stmt := inClass (top 19) 7
abbrev sOctetReaderNextFourIn : Stmt := inClass (top 19) 8
abbrev sOctetReaderNextBits : Stmt := inClass (top 19) 9
abbrev sShInit : Stmt := inClass (top 28) 0
abbrev sShEq : Stmt := inClass (top 28) 1
abbrev sCheckShape : Stmt := top 29
abbrev sIsDim : Stmt := top 30
abbrev sIsAttr : Stmt := top 31
abbrev sIsSimpleName : Stmt := top 32
abbrev sRootInit : Stmt := inClass (top 38) 0
abbrev sRootEq : Stmt := inClass (top 38) 1
abbrev sSumOf : Stmt := top 39
abbrev sWriteFour : Stmt := top 40
abbrev sWriteName : Stmt := top 41
abbrev sEncodeRoot : Stmt := top 42
abbrev sWriteShape : Stmt := top 43
abbrev sWriteChunks : Stmt := top 44
abbrev sDecodeRoot : Stmt := top 45
abbrev sReadArrays : Stmt := top 46
abbrev sReadName : Stmt := top 47
abbrev sReadShape : Stmt := top 48
abbrev sReadDim : Stmt := top 49
abbrev sReadAttr : Stmt := top 50
abbrev sReadChunks : Stmt := top 51
abbrev sDraw : Stmt := top 53
abbrev sShape : Stmt := top 54
abbrev sLChunks : Stmt := top 55
abbrev sLRoot : Stmt := top 56
abbrev sNumber : Stmt := top 57
abbrev sLName : Stmt := top 58
abbrev sLOctets : Stmt := top 59
abbrev sLSum : Stmt := top 60
abbrev sLaw : Stmt := top 61
end K2

namespace K2
open PySem L2
/-! ### heaps -/
theorem same_new {H : Hp} {p : Addr} {o : HO} (h : H p = none) : Same H (upd H p o) := fun b x e => by
  rw [upd_ne (ne_of_none e h)]
  exact e
theorem same_put {H H1 : Hp} {p : Addr} {o : HO} (s : Same H H1) (h : H p = none) : Same H (upd H1 p o) := fun b x e => by
  rw [upd_ne (ne_of_none e h)]
  exact s b x e
theorem iteB {b : Bool} {A B : Prop} (e : b = true) (h : A) : if b = true then A else B := by
  rw [if_pos e]
  exact h
theorem iteBF {b : Bool} {A B : Prop} (e : b = false) (h : B) : if b = true then A else B := by
  subst e
  exact iteF h
theorem str_eq (a b : Str) : decide (V.str a = V.str b) = decide (a = b) := by
  by_cases e : a = b
  · subst e
    rw [decide_eq_true rfl, decide_eq_true rfl]
  · rw [decide_eq_false e, decide_eq_false fun h => e (V.str.inj h)]
/-- all that is outside of F stays -/
def Out (F : Addr → Prop) (H H1 : Hp) : Prop := ∀ c o, H c = some o → ¬ F c → H1 c = some o
theorem Out.refl {F : Addr → Prop} {H : Hp} : Out F H H := fun _ _ h _ => h
theorem Same.out {F : Addr → Prop} {H H1 : Hp} (s : Same H H1) : Out F H H1 := fun c o h _ => s c o h
/-- F1 has but what F has, and what was free -/
def Gw (F F1 : Addr → Prop) (H : Hp) : Prop := ∀ c, F1 c → F c ∨ H c = none
theorem Gw.refl {F : Addr → Prop} {H : Hp} : Gw F F H := fun _ h => .inl h
theorem Out.trans {F F1 : Addr → Prop} {H H1 H2 : Hp} (a : Out F H H1) (g : Gw F F1 H) (b : Out F1 H1 H2) : Out F H H2 := fun c o h n => by
  refine b c o (a c o h n) fun z => ?_
  rcases g c z with y | y
  · exact n y
  · rw [y] at h
    cases h
theorem Gw.trans {F F1 F2 : Addr → Prop} {H H1 : Hp} (g : Gw F F1 H) (a : Out F H H1) (k : Gw F1 F2 H1) : Gw F F2 H := fun c h => by
  rcases k c h with y | y
  · exact g c y
  · cases e : H c with
    | none => exact .inr rfl
    | some o =>
      refine .inl ?_
      apply Classical.byContradiction
      intro n
      rw [a c o e n] at y
      cases y
theorem Out.upd {F : Addr → Prop} {H H1 : Hp} {p : Addr} {o : HO} (a : Out F H H1) (h : F p ∨ H p = none) : Out F H (upd H1 p o) := fun c x e n => by
  rw [upd_ne]
  · exact a c x e n
  · intro z
    rcases h with h | h
    · exact n (z ▸ h)
    · rw [z, h] at e
      cases e
theorem Out.free {F : Addr → Prop} {H H1 : Hp} (a : Out F H H1) (hF : ∀ c, F c → H1 c ≠ none) {p : Addr} (h : H1 p = none) : H p = none := by
  cases e : H p with
  | none => rfl
  | some o =>
    have n : ¬ F p := fun z => hF p z h
    rw [a p o e n] at h
    cases h
/-! ### rows of tuples -/
def Rows (H : Hp) (xs : List V) (rs : List (List V)) : Prop := xs.length = rs.length ∧ ∀ (i : Nat) (r : List V), rs[i]? = some r → ∃ a, xs[i]? = some (V.ref a) ∧ H a = some (.tup r)
theorem Rows.keep {H H1 : Hp} {xs : List V} {rs : List (List V)} (h : Rows H xs rs) (e : ∀ a r, H a = some (.tup r) → H1 a = some (.tup r)) : Rows H1 xs rs := ⟨h.1, fun i r hr => let ⟨a, h1, h2⟩ := h.2 i r hr; ⟨a, h1, e _ _ h2⟩⟩
theorem Rows.nil {H : Hp} : Rows H [] [] := ⟨rfl, fun i r h => by simp at h⟩
theorem Rows.push {H : Hp} {xs : List V} {rs : List (List V)} {a : Addr} {r : List V} (h : Rows H xs rs) (e : H a = some (.tup r)) : Rows H (xs ++ [V.ref a]) (rs ++ [r]) := by
  refine ⟨by rw [List.length_append, List.length_append, h.1]; rfl, fun i q hq => ?_⟩
  rcases Nat.lt_trichotomy i rs.length with hi | hi | hi
  · rw [List.getElem?_append_left hi] at hq
    obtain ⟨b, h1, h2⟩ := h.2 i q hq
    exact ⟨b, by rw [List.getElem?_append_left (by rw [h.1]; exact hi)]; exact h1, h2⟩
  · subst hi
    rw [List.getElem?_append_right (Nat.le_refl _), Nat.sub_self] at hq
    have : r = q := Option.some.inj hq
    subst this
    exact ⟨a, by rw [List.getElem?_append_right (Nat.le_of_eq h.1), h.1, Nat.sub_self]; rfl, e⟩
  · rw [List.getElem?_eq_none (by rw [List.length_append, List.length_singleton]; omega)] at hq
    cases hq
theorem Rows.take {H : Hp} {xs : List V} {rs : List (List V)} (h : Rows H xs rs) (n : Nat) : Rows H (xs.take n) (rs.take n) := by
  refine ⟨by rw [List.length_take, List.length_take, h.1], fun i r hr => ?_⟩
  by_cases hi : i < n
  · rw [List.getElem?_take_of_lt hi] at hr ⊢
    exact h.2 i r hr
  · rw [List.getElem?_eq_none (by rw [List.length_take]; omega)] at hr
    cases hr
/-! ### tables: names and numbers, in order -/
abbrev Tb := List (Str × Nat)
def tput (t : Tb) (n : Str) (i : Nat) : Tb := if (t.any fun p => decide (p.1 = n)) = true then t.map (fun p => if p.1 = n then (p.1, i) else p) else t ++ [(n, i)]
def tget (t : Tb) (n : Str) : Option Nat := (t.find? fun p => decide (p.1 = n)).map (·.2)
def tdrop (t : Tb) (n : Str) : Tb := t.filter fun p => decide (p.1 ≠ n)
def mp (g : Nat → V) (t : Tb) : List (Key × V) := t.map fun p => ((Sum.inr p.1 : Key), g p.2)
theorem inr_eq {a b : Str} : ((Sum.inr a : Key) = Sum.inr b) ↔ a = b := ⟨fun h => Sum.inr.inj h, fun h => by rw [h]⟩
theorem dinr (a b : Str) : decide ((Sum.inr a : Key) = Sum.inr b) = decide (a = b) := decide_eq_decide.mpr inr_eq
theorem mp_get (g : Nat → V) (t : Tb) (n : Str) : valV (mp g t) (Sum.inr n) = (tget t n).map g := by
  unfold valV mp tget
  rw [List.find?_map]
  show Option.map _ (Option.map _ (t.find? fun p => decide ((Sum.inr p.1 : Key) = Sum.inr n))) = _
  rw [show (fun p : Str × Nat => decide ((Sum.inr p.1 : Key) = Sum.inr n)) = fun p => decide (p.1 = n) from funext fun p => dinr _ _]
  cases t.find? (fun p => decide (p.1 = n)) <;> rfl
theorem mp_put (g : Nat → V) (t : Tb) (n : Str) (i : Nat) : putK (mp g t) (Sum.inr n) (g i) = mp g (tput t n i) := by
  have e : ((mp g t).any fun kv => decide (kv.1 = (Sum.inr n : Key))) = t.any fun p => decide (p.1 = n) := by
    unfold mp
    rw [List.any_map]
    exact congrArg (fun f => t.any f) (funext fun p => dinr _ _)
  unfold putK tput
  rw [e]
  by_cases c : (t.any fun p => decide (p.1 = n)) = true
  · rw [if_pos c, if_pos c]
    unfold mp
    rw [List.map_map, List.map_map]
    refine List.map_congr_left fun p _ => ?_
    show (if (Sum.inr p.1 : Key) = Sum.inr n then _ else _) = _
    by_cases h : p.1 = n
    · rw [if_pos (inr_eq.mpr h)]
      show _ = ((Sum.inr (if p.1 = n then (p.1, i) else p).1 : Key), g (if p.1 = n then (p.1, i) else p).2)
      rw [if_pos h]
    · rw [if_neg fun z => h (inr_eq.mp z)]
      show _ = ((Sum.inr (if p.1 = n then (p.1, i) else p).1 : Key), g (if p.1 = n then (p.1, i) else p).2)
      rw [if_neg h]
  · rw [if_neg c, if_neg c]
    unfold mp
    rw [List.map_append]
    rfl
theorem mp_drop (g : Nat → V) (t : Tb) (n : Str) : dropK (mp g t) (Sum.inr n) = mp g (tdrop t n) := by
  unfold dropK mp tdrop
  rw [List.filter_map]
  congr 1
  refine List.filter_congr fun p _ => ?_
  exact decide_eq_decide.mpr (not_congr inr_eq)
theorem mp_len (g : Nat → V) (t : Tb) : (mp g t).length = t.length := List.length_map _
theorem tput_len (t : Tb) (n : Str) (i : Nat) : (tput t n i).length ≤ t.length + 1 := by
  unfold tput
  split
  · rw [List.length_map]; omega
  · rw [List.length_append]; exact Nat.le_refl _
inductive Cg where
  | make (n : Str) (i : Nat)
  | ren (a b : Str) (i : Nat)
  | rem (a : Str)
def mv (t : Tb) : Cg → Tb
  | .make n i => tput t n i
  | .ren a b i => tput (tdrop t a) b i
  | .rem a => tdrop t a
def okC (t : Tb) : Cg → Prop
  | .make _ _ => True
  | .ren a _ i => tget t a = some i
  | .rem a => ∃ i, tget t a = some i
def run (t : Tb) (cs : List Cg) : Tb := cs.foldl mv t
theorem run_snoc (t : Tb) (cs : List Cg) (c : Cg) : run t (cs ++ [c]) = mv (run t cs) c := by
  unfold run
  rw [List.foldl_append]
  rfl
end K2

namespace K2
open PySem L2
/-! ### classes -/
structure KC (K : PySem.W.Frag) (C fI : Addr) (fs : List Str) : Prop where
  mkC : Mk K C fI
  cl : Cls K C
  na : ∀ f ∈ fs, NoAttr K C f
theorem mk_same {H H1 : Hp} {x dx : Addr} {a b : HO} (nx : H x = none) (ndx : H dx = none) (k : ∀ c o, (upd (upd H dx a) x b) c = some o → c ≠ x → H1 c = some o) : Same H H1 := fun c o h =>
  k c o (by rw [upd_ne (ne_of_none h nx), upd_ne (ne_of_none h ndx)]; exact h) (ne_of_none h nx)
structure Nm (mg : Str → Option Value) : Prop where
  range : mg "range" = none
  int : mg "int" = none
  len : mg "len" = none
  isinstance : mg "isinstance" = none
  bool : mg "bool" = none
  str : mg "str" = none
  min : mg "min" = none
  max : mg "max" = none
  sum : mg "sum" = none
  abs : mg "abs" = none
  enumerate : mg "enumerate" = none
  tuple : mg "tuple" = none
  list : mg "list" = none
  sorted : mg "sorted" = none
  zip : mg "zip" = none
  reversed : mg "reversed" = none
  dict : mg "dict" = none
  ve : mg "ValueError" = none
theorem isE_map (l : List Int) : (l.map V.int).isEmpty = l.isEmpty := by cases l <;> rfl
theorem ps_dead {X : Cx} {st : Stmt} : PS X st (fun _ _ _ => False) := ⟨fun _ _ _ _ _ _ h => h.elim⟩
theorem pss_dead {X : Cx} {l : List Stmt} : PSs X l (fun _ _ _ => False) := ⟨fun _ _ _ _ _ _ h => h.elim⟩
end K2

namespace K2
open PySem L2
def SAt (H : Hp) (S : Addr) : Prop := ∃ x y : Int, H S = some (.lst [.int x, .int y])
theorem SqL.keepS {K : PySem.W.Frag} {H H1 : Hp} {a : Addr} {xs : List V} (h : SqL K H a xs) (k : ∀ o, H a = some o → H1 a = some o) : SqL K H1 a xs := by
  rcases h with (h | ⟨o, h⟩) | h
  · exact .inl (.inl (k _ h))
  · exact .inl (.inr ⟨o, k _ h⟩)
  · exact .inr h
section
variable {P : Program} {w : World} {K : PySem.W.Frag} {mg : Str → Option Value} {base : Heap}
def spDraw (K : PySem.W.Frag) : Sp := fun vs H Q _ => ∃ (S scr : Addr) (b : Int) (ns : List Int), vs = [.ref S, .ref scr, .int b] ∧ 0 < b ∧ b < 1000000 ∧ SAt H S ∧ SqL K H scr (ns.map V.int) ∧
  ∀ H' v, (∀ a o, H a = some o → a ≠ S → H' a = some o) → SAt H' S → 0 ≤ v → v < b → Q (.int v) H'
theorem scDraw : FnScope ["state", "script", "size", "cell", "digit"] ["state", "script", "size"] (defScope sDraw) := ⟨rfl, rfl, rfl, by decide +kernel, rfl, by decide +kernel, by decide +kernel⟩
theorem ok_draw {f : Addr} {fd : FuncData} (F : Fun K "_law_draw" "_law_draw" sDraw f fd) (N : Nm mg) : FnOk P w K mg base CX0 1 f fd ["state", "script", "size"] (spDraw K) := by
  refine F.ok scDraw (fun vs H Q E h => ?_) (fun cdv A outer s H vs Q E hr h => ?_)
  · obtain ⟨S, scr, b, ns, rfl, _⟩ := h
    rfl
  · obtain ⟨S, scr, b, ns, rfl, b0, b1, ⟨x, y, hS⟩, hs, q⟩ := h
    refine ⟨_, Evl.pss_cut (ps_if (pt_cmpR op_eq (pe_ix ix_list (pv 0) pe_int (fun _ _ => rfl)) pe_int (nomark _))
        (pss_cons (ps_set (i := 3) scDraw.nd rfl (.inl rfl) pe_int)
        (Evl.pss_cut (ps_if (pt_cmpR op_gt (pe_callB call_len_seq (by rfl) N.len PySem.boot_len (pa_cons (pv 1) pa_nil)) pe_int (nomark _))
          (pss_one (ps_set (i := 3) scDraw.nd rfl (.inl rfl) (pe_callTy call_int1 (by rfl) N.int (by decide +kernel) (pa_cons (pe_ix ix_list (pv 1) (pe_op op_mod (pe_ix ix_list (pv 0) pe_int (fun _ _ => rfl)) (pe_callB call_len_seq (by rfl) N.len PySem.boot_len (pa_cons (pv 1) pa_nil))) (fun _ _ => rfl)) pa_nil)))) pss_nil)
        (pss_cons (ps_asg (pe_op op_mod (pe_op op_mul (pe_op op_add (pe_op op_add (pe_op op_mul (pe_callB call_abs (by rfl) N.abs (by decide +kernel) (pa_cons (pv 3) pa_nil)) pe_int) (pe_op op_mul (pe_ix ix_list (pv 0) pe_int (fun _ _ => rfl)) pe_int)) pe_int) pe_int) pe_int) (pg_sub (pv 0) pe_int set_list))
        (pss_one (ps_asg (pe_op op_add (pe_ix ix_list (pv 0) pe_int (fun _ _ => rfl)) pe_int) (pg_sub (pv 0) pe_int set_list)))))) pss_nil)
      (pss_cons (ps_set (i := 4) scDraw.nd rfl (.inl rfl) (pe_op op_mod (pe_callTy call_int1 (by rfl) N.int (by decide +kernel) (pa_cons (pe_ix ix_list (pv 0) pe_int (fun _ _ => rfl)) pa_nil)) (pv 2)))
      (pss_cons (ps_asg (pe_op op_fdiv (pe_ix ix_list (pv 0) pe_int (fun _ _ => rfl)) (pv 2)) (pg_sub (pv 0) pe_int set_list))
      (pss_one (ps_ret (pv 4))))), ?_⟩
    refine ⟨fun σ H1 => ∃ y3 x1 y1, σ = [some (.ref S), some (.ref scr), some (.int b), y3, none] ∧ (∀ a o, H a = some o → a ≠ S → H1 a = some o) ∧ H1 S = some (.lst [.int x1, .int y1]), ?_, ?_⟩
    · refine ⟨_, rfl, S, _, 1, .int y, rfl, rfl, .inl (.inl hS), rfl, rfl, _, rfl, ?_⟩
      by_cases hy : y = 0
      · refine iteB (decide_eq_true (by rw [hy])) ?_
        refine ⟨fun σ H1 => ∃ c : Int, σ = [some (.ref S), some (.ref scr), some (.int b), some (.int c), none] ∧ H1 = H, ?_, ?_⟩
        · refine ⟨_, rfl, scr, _, rfl, .inl hs, _, _, rfl, rfl, _, rfl, ?_⟩
          rw [List.length_map]
          by_cases hl : ns.length = 0
          · refine iteBF (decide_eq_false (by omega)) ⟨0, rfl, rfl⟩
          · refine iteB (decide_eq_true (by omega)) ?_
            have h1 : 0 ≤ x % (ns.length : Int) := Int.emod_nonneg _ (by omega)
            have h2 : x % (ns.length : Int) < ns.length := Int.emod_lt_of_pos _ (by omega)
            obtain ⟨j, hj⟩ : ∃ j : Nat, x % (ns.length : Int) = (j : Int) := ⟨(x % (ns.length : Int)).toNat, by omega⟩
            have hjl : j < ns.length := by omega
            refine ⟨_, rfl, _, rfl, S, _, 0, .int x, rfl, rfl, .inl (.inl hS), rfl, _, rfl, scr, _, rfl, .inl hs, x, (ns.length : Int), rfl, by rw [List.length_map], by omega, scr, _, _, .int ns[j], rfl, rfl, hs, ?_, .inl ⟨_, rfl, _, rfl, rfl⟩⟩
            rw [hj]
            exact atI_nat (by rw [List.getElem?_map, List.getElem?_eq_getElem hjl]; rfl)
        · rintro σ H1 ⟨c, rfl, rfl⟩
          refine ⟨_, rfl, c, rfl, _, _, rfl, rfl, .inr ⟨by decide, by decide⟩, ?_⟩
          refine ⟨_, rfl, S, _, 0, .int x, rfl, rfl, .inl (.inl hS), rfl, _, _, rfl, rfl, .inr ⟨by decide, by decide⟩, ?_⟩
          refine ⟨_, _, rfl, rfl, _, _, rfl, rfl, _, _, rfl, rfl, .inr ⟨by decide, by decide⟩, _, _, rfl, rfl, (by show (0 : Int) < 4294967291; decide), ?_⟩
          refine ⟨_, rfl, S, _, 1, 1, rfl, rfl, hS, rfl, ?_⟩
          refine ⟨_, rfl, S, _, 0, .int x, rfl, rfl, .inl (.inl upd_same), rfl, _, _, rfl, rfl, _, rfl, S, _, 0, 0, rfl, rfl, upd_same, rfl, ?_⟩
          exact ⟨_, _, _, rfl, fun a o h n => by rw [upd_ne n, upd_ne n]; exact h, upd_same⟩
      · refine iteBF (decide_eq_false fun z => hy (V.int.inj z)) ⟨none, x, y, rfl, fun a o h n => h, hS⟩
    · rintro σ H1 ⟨y3, x1, y1, rfl, k1, h1⟩
      refine ⟨_, rfl, S, _, 1, .int y1, rfl, rfl, .inl (.inl h1), rfl, .inl ⟨y1, rfl, _, rfl, y1, b, rfl, rfl, b0, ?_⟩⟩
      refine ⟨_, rfl, S, _, 1, .int y1, rfl, rfl, .inl (.inl h1), rfl, _, rfl, y1, b, rfl, rfl, ⟨b0, by omega⟩, _, rfl, S, _, 1, 1, rfl, rfl, h1, rfl, ?_⟩
      refine ⟨_, rfl, q _ _ (fun a o h n => by rw [upd_ne n]; exact k1 _ _ h n) ⟨x1, _, upd_same⟩ (Int.emod_nonneg _ (by omega)) (Int.emod_lt_of_pos _ b0)⟩
end
end K2

namespace K2
open PySem L2
def nmo (n : Str) : List Int := n.cps.toList.map fun (c : Nat) => (c : Int)
def w4 (n : Int) : List Int := [n / 16777216 % 256, n / 65536 % 256, n / 256 % 256, n % 256]
def wn (n : Str) : List Int := (n.length : Int) :: nmo n
/-- two sums, octet by octet -/
def sm (a : Int × Int) (o : Int) : Int × Int := ((a.1 + o) % 65521, (a.2 + (a.1 + o) % 65521) % 65521)
def sumO (os : List Int) : Int := let r := os.foldl sm (1, 0); r.2 * 65536 + r.1
theorem nmo_len (n : Str) : (nmo n).length = n.length := by
  unfold nmo
  rw [List.length_map]
  rfl
structure Ct (mg : Str → Option Value) : Prop where
  sm : ∃ v, mg "SUM_MODULUS" = some v ∧ RelV (.int 65521) v
section
variable {P : Program} {w : World} {K : PySem.W.Frag} {mg : Str → Option Value} {base : Heap}
def spEnc : Sp := fun vs H Q _ => ∃ n : Str, vs = [.str n] ∧ n.length ≤ 1000 ∧ ∀ H' p, Same H H' → H p = none → H' p = some (.lst ((nmo n).map V.int)) → Q (.ref p) H'
theorem scEnc : FnScope ["text", "character"] ["text"] (defScope sEncodeText) := ⟨rfl, rfl, rfl, by decide +kernel, rfl, by decide +kernel, by decide +kernel⟩
theorem ord_step {n : Str} {i : Nat} {c : Nat} (h : n.cps[i]? = some c) : (nmo n).take (i + 1) = (nmo n).take i ++ [(c : Int)] := by
  rw [List.take_add_one]
  congr 1
  unfold nmo
  rw [List.getElem?_map, Array.getElem?_toList, h]
  rfl
theorem ok_enc {f : Addr} {fd : FuncData} (F : Fun K "encode_text" "encode_text" sEncodeText f fd) (N : Nm mg) (go : mg "ord" = none) : FnOk P w K mg base CX0 1 f fd ["text"] spEnc := by
  refine F.ok scEnc (fun vs H Q E h => ?_) (fun cdv A outer s H vs Q E hr h => ?_)
  · obtain ⟨n, rfl, _⟩ := h
    rfl
  · obtain ⟨n, rfl, hl, q⟩ := h
    refine ⟨_, pss_one (ps_ret (pe_lc (own := [("character", 1)]) (g := gName 1) (tt := tYes) rfl scEnc.nd (pi_str (pv 0)) (blkOk_by (N := ["text", "character"]) (sc := defScope sEncodeText) (by decide +kernel))
      (fun _ _ _ _ _ => pg_name (i := 1) scEnc.nd rfl (Or.inl rfl)) (fun _ _ _ _ _ => pts_nil) (fun _ _ _ _ _ => pe_callB call_ord (by rfl) go (by decide +kernel) (pa_cons (pv 1) pa_nil)))), ?_⟩
    refine ⟨_, rfl, n, rfl, fun D nD => ?_⟩
    refine lc_it walk_str (fun i H3 => Same H H3 ∧ H3 D = some (.lst (((nmo n).take i).map V.int))) ⟨same_new nD, upd_same⟩ (fun _ _ _ _ => trivial) ?_ ?_
    · rintro i x H3 H' hi ⟨sm, hD⟩ ⟨rfl, c, hc, rfl⟩
      refine ⟨rfl, ?_⟩
      dsimp only [tYes]
      rw [if_pos rfl]
      refine ⟨_, rfl, _, rfl, rfl, _, hD, ?_, same_put sm nD, ?_⟩
      · rw [List.length_map, List.length_take, nmo_len]
        exact small1000 (by omega)
      · rw [upd_same, ord_step hc, List.map_append]
        rfl
    · rintro H3 ⟨sm, hD⟩
      rw [show n.cps.size = (nmo n).length from (nmo_len n).symm, List.take_length] at hD
      exact q H3 D sm nD hD
def spW4 : Sp := fun vs H Q _ => ∃ n : Int, vs = [.int n] ∧ ∀ p, H p = none → Q (.ref p) (upd H p (.lst ((w4 n).map V.int)))
theorem scW4 : FnScope ["number"] ["number"] (defScope sWriteFour) := ⟨rfl, rfl, rfl, by decide +kernel, rfl, by decide +kernel, by decide +kernel⟩
theorem ok_w4 {f : Addr} {fd : FuncData} (F : Fun K "write_four" "write_four" sWriteFour f fd) : FnOk P w K mg base CX0 1 f fd ["number"] spW4 := by
  refine F.ok scW4 (fun vs H Q E h => ?_) (fun cdv A outer s H vs Q E hr h => ?_)
  · obtain ⟨n, rfl, _⟩ := h
    rfl
  · obtain ⟨n, rfl, q⟩ := h
    refine ⟨_, pss_one (ps_ret (pe_lst (pa_cons (pe_op op_andM (pe_op op_shr (pv 0) pe_int) pe_int) (pa_cons (pe_op op_andM (pe_op op_shr (pv 0) pe_int) pe_int) (pa_cons (pe_op op_andM (pe_op op_shr (pv 0) pe_int) pe_int) (pa_cons (pe_op op_andM (pv 0) pe_int) pa_nil)))))), ?_⟩
    exact ⟨_, rfl, _, _, rfl, rfl, (by show (0 : Int) ≤ 24; decide), _, 8, rfl, rfl, _, rfl, _, _, rfl, rfl, (by show (0 : Int) ≤ 16; decide), _, 8, rfl, rfl, _, rfl, _, _, rfl, rfl, (by show (0 : Int) ≤ 8; decide), _, 8, rfl, rfl, _, rfl, _, 8, rfl, rfl, (by show 4 ≤ sizeLine; decide), fun p np => q p np⟩
theorem scLN : FnScope ["number"] ["number"] (defScope sNumber) := ⟨rfl, rfl, rfl, by decide +kernel, rfl, by decide +kernel, by decide +kernel⟩
theorem ok_ln {f : Addr} {fd : FuncData} (F : Fun K "_law_number" "_law_number" sNumber f fd) : FnOk P w K mg base CX0 1 f fd ["number"] spW4 := by
  refine F.ok scLN (fun vs H Q E h => ?_) (fun cdv A outer s H vs Q E hr h => ?_)
  · obtain ⟨n, rfl, _⟩ := h
    rfl
  · obtain ⟨n, rfl, q⟩ := h
    refine ⟨_, pss_one (ps_ret (pe_lst (pa_cons (pe_op op_mod (pe_op op_fdiv (pv 0) pe_int) pe_int) (pa_cons (pe_op op_mod (pe_op op_fdiv (pv 0) pe_int) pe_int) (pa_cons (pe_op op_mod (pe_op op_fdiv (pv 0) pe_int) pe_int) (pa_cons (pe_op op_mod (pv 0) pe_int) pa_nil)))))), ?_⟩
    exact ⟨_, rfl, _, _, rfl, rfl, ⟨by decide, by decide⟩, _, _, rfl, rfl, (by show (0 : Int) < 256; decide), _, rfl, _, _, rfl, rfl, ⟨by decide, by decide⟩, _, _, rfl, rfl, (by show (0 : Int) < 256; decide), _, rfl, _, _, rfl, rfl, ⟨by decide, by decide⟩, _, _, rfl, rfl, (by show (0 : Int) < 256; decide), _, rfl, _, _, rfl, rfl, (by show (0 : Int) < 256; decide), (by show 4 ≤ sizeLine; decide), fun p np => q p np⟩
def spWN : Sp := fun vs H Q _ => ∃ n : Str, vs = [.str n] ∧ n.length ≤ 900 ∧ ∀ H' p, Same H H' → H p = none → H' p = some (.lst ((wn n).map V.int)) → Q (.ref p) H'
theorem scWN : FnScope ["name"] ["name"] (defScope sWriteName) := ⟨rfl, rfl, rfl, by decide +kernel, rfl, by decide +kernel, by decide +kernel⟩
theorem ok_wn {f fE : Addr} {fd fdE : FuncData} (F : Fun K "write_name" "write_name" sWriteName f fd) (N : Nm mg) (go : mg "ord" = none) (FE : Fun K "encode_text" "encode_text" sEncodeText fE fdE) (bE : Binds K fdE ["text"] []) (gE : mg "encode_text" = some (.ref fE)) : FnOk P w K mg base CX0 2 f fd ["name"] spWN := by
  have GE : FnOk P w K mg base CX0 1 fE fdE ["text"] spEnc := ok_enc FE N go
  refine F.ok scWN (fun vs H Q E h => ?_) (fun cdv A outer s H vs Q E hr h => ?_)
  · obtain ⟨n, rfl, _⟩ := h
    rfl
  · obtain ⟨n, rfl, hl, q⟩ := h
    refine ⟨_, pss_one (ps_ret (pe_op op_cat (pe_lst (pa_cons (pe_callB call_len_str (by rfl) N.len PySem.boot_len (pa_cons (pv 0) pa_nil)) pa_nil)) (pe_call GE hr (by rfl) gE FE.kp bE .nil pass0 (pa_cons (pv 0) pa_nil)))), ?_⟩
    refine ⟨_, rfl, n, rfl, Nat.le_of_lt (small1000 (by omega)), (by show 1 ≤ sizeLine; decide), fun p1 n1 => ?_⟩
    refine ⟨_, rfl, n, rfl, by omega, fun H2 p2 s2 n2 e2 => ?_⟩
    have e1 := s2 _ _ (upd_same (H := H) (a := p1) (o := .lst [.int (n.length : Int)]))
    refine ⟨p1, p2, _, _, rfl, rfl, e1, e2, ?_, fun p np => q _ p ((same_new n1).trans (s2.trans (same_new np))) ((same_new n1).free (s2.free np)) ?_⟩
    · rw [List.length_map, nmo_len]
      exact Nat.le_of_lt (small1000 (by show 1 + _ ≤ _; omega))
    · rw [upd_same]
      rfl
theorem scLNm : FnScope ["name", "char"] ["name"] (defScope sLName) := ⟨rfl, rfl, rfl, by decide +kernel, rfl, by decide +kernel, by decide +kernel⟩
theorem ok_lnm {f : Addr} {fd : FuncData} (F : Fun K "_law_name" "_law_name" sLName f fd) (N : Nm mg) (go : mg "ord" = none) : FnOk P w K mg base CX0 1 f fd ["name"] spWN := by
  refine F.ok scLNm (fun vs H Q E h => ?_) (fun cdv A outer s H vs Q E hr h => ?_)
  · obtain ⟨n, rfl, _⟩ := h
    rfl
  · obtain ⟨n, rfl, hl, q⟩ := h
    refine ⟨_, pss_one (ps_ret (pe_op op_cat (pe_lst (pa_cons (pe_callB call_len_str (by rfl) N.len PySem.boot_len (pa_cons (pv 0) pa_nil)) pa_nil)) (pe_lc (own := [("char", 1)]) (g := gName 1) (tt := tYes) rfl scLNm.nd (pi_str (pv 0)) (blkOk_by (N := ["name", "char"]) (sc := defScope sLName) (by decide +kernel))
      (fun _ _ _ _ _ => pg_name (i := 1) scLNm.nd rfl (Or.inl rfl)) (fun _ _ _ _ _ => pts_nil) (fun _ _ _ _ _ => pe_callB call_ord (by rfl) go (by decide +kernel) (pa_cons (pv 1) pa_nil))))), ?_⟩
    refine ⟨_, rfl, n, rfl, Nat.le_of_lt (small1000 (by omega)), (by show 1 ≤ sizeLine; decide), fun p1 n1 => ?_⟩
    have s1 := same_new (H := H) (o := .lst [.int (n.length : Int)]) n1
    refine ⟨_, rfl, n, rfl, fun D nD => ?_⟩
    refine lc_it walk_str (fun i H3 => Same (upd H p1 (.lst [.int (n.length : Int)])) H3 ∧ H3 D = some (.lst (((nmo n).take i).map V.int))) ⟨same_new nD, upd_same⟩ (fun _ _ _ _ => trivial) ?_ ?_
    · rintro i x H3 H' hi ⟨sm, hD⟩ ⟨rfl, c, hc, rfl⟩
      refine ⟨rfl, ?_⟩
      dsimp only [tYes]
      rw [if_pos rfl]
      refine ⟨_, rfl, _, rfl, rfl, _, hD, ?_, same_put sm nD, ?_⟩
      · rw [List.length_map, List.length_take, nmo_len]
        exact small1000 (by omega)
      · rw [upd_same, ord_step hc, List.map_append]
        rfl
    · rintro H3 ⟨sm, hD⟩
      rw [show n.cps.size = (nmo n).length from (nmo_len n).symm, List.take_length] at hD
      refine ⟨p1, D, _, _, rfl, rfl, sm _ _ upd_same, hD, ?_, fun p np => q _ p (s1.trans (sm.trans (same_new np))) (s1.free (sm.free np)) ?_⟩
      · rw [List.length_map, nmo_len]
        exact Nat.le_of_lt (small1000 (by show 1 + _ ≤ _; omega))
      · rw [upd_same]
        rfl
end
end K2

namespace K2
open PySem L2
def smT (os : List Int) (i : Nat) : Int × Int := (os.take i).foldl sm (1, 0)
theorem smT_succ {os : List Int} {i : Nat} (h : i < os.length) : smT os (i + 1) = sm (smT os i) os[i] := by
  unfold smT
  rw [List.take_add_one, List.getElem?_eq_getElem h, List.foldl_append]
  rfl
theorem smT_end (os : List Int) : smT os os.length = os.foldl sm (1, 0) := by
  unfold smT
  rw [List.take_length]
section
variable {P : Program} {w : World} {K : PySem.W.Frag} {mg : Str → Option Value} {base : Heap}
def spSum (K : PySem.W.Frag) : Sp := fun vs H Q _ => ∃ (a : Addr) (os : List Int), vs = [.ref a] ∧ SqL K H a (os.map V.int) ∧ Q (.int (sumO os)) H
theorem scSum : FnScope ["octets", "first", "second", "octet"] ["octets"] (defScope sSumOf) := ⟨rfl, rfl, rfl, by decide +kernel, rfl, by decide +kernel, by decide +kernel⟩
theorem ok_sum {f : Addr} {fd : FuncData} (F : Fun K "sum_of" "sum_of" sSumOf f fd) (C : Ct mg) : FnOk P w K mg base CX0 1 f fd ["octets"] (spSum K) := by
  refine F.ok scSum (fun vs H Q E h => ?_) (fun cdv A outer s H vs Q E hr h => ?_)
  · obtain ⟨a, os, rfl, _⟩ := h
    rfl
  · obtain ⟨a, os, rfl, ha, q⟩ := h
    obtain ⟨v, mv, rv⟩ := C.sm
    refine ⟨_, pss_cons (ps_set (i := 1) scSum.nd rfl (.inl rfl) pe_int) (pss_cons (ps_set (i := 2) scSum.nd rfl (.inl rfl) pe_int)
      (pss_cons (ps_for PassesOwn.never rfl (pi_list (pv 0)) (pg_name (i := 3) scSum.nd rfl (.inl rfl))
        (pss_cons (ps_set (i := 1) scSum.nd rfl (.inl rfl) (pe_op op_mod (pe_op op_add (pv 1) (pv 3)) (pe_glob (by rfl) mv rv)))
        (pss_one (ps_set (i := 2) scSum.nd rfl (.inl rfl) (pe_op op_mod (pe_op op_add (pv 2) (pv 1)) (pe_glob (by rfl) mv rv))))))
      (pss_one (ps_ret (pe_op op_add (pe_op op_mul (pv 2) pe_int) (pv 1)))))), ?_⟩
    refine ⟨_, rfl, a, rfl, ⟨_, ha⟩, for_it (walk_list (xs := os.map V.int)) (fun i σ H2 => ∃ y3, σ = [some (.ref a), some (.int (smT os i).1), some (.int (smT os i).2), y3] ∧ H2 = H) ⟨none, rfl, rfl⟩ ?_ ?_ ?_⟩
    · rintro i σ H2 hi ⟨y3, rfl, rfl⟩
      exact ha
    · rintro i x σ H2 H' hi ⟨y3, rfl, rfl⟩ ⟨rfl, hx⟩
      rw [List.length_map] at hi
      rw [List.getElem?_map, List.getElem?_eq_getElem hi] at hx
      obtain rfl := Option.some.inj hx
      rw [smT_succ hi]
      exact ⟨_, rfl, _, rfl, _, _, rfl, rfl, _, _, rfl, rfl, (by show (0 : Int) < 65521; decide), _, rfl, _, rfl, _, _, rfl, rfl, _, _, rfl, rfl, (by show (0 : Int) < 65521; decide), _, rfl, rfl⟩
    · rintro σ H2 ⟨y3, rfl, rfl⟩
      rw [List.length_map, smT_end]
      exact ⟨_, rfl, _, _, rfl, rfl, .inr ⟨by decide, by decide⟩, _, rfl, _, _, rfl, rfl, q⟩
theorem scLS : FnScope ["octets", "first", "second", "octet"] ["octets"] (defScope sLSum) := ⟨rfl, rfl, rfl, by decide +kernel, rfl, by decide +kernel, by decide +kernel⟩
theorem ok_lsum {f : Addr} {fd : FuncData} (F : Fun K "_law_sum" "_law_sum" sLSum f fd) (N : Nm mg) : FnOk P w K mg base CX0 1 f fd ["octets"] (spSum K) := by
  refine F.ok scLS (fun vs H Q E h => ?_) (fun cdv A outer s H vs Q E hr h => ?_)
  · obtain ⟨a, os, rfl, _⟩ := h
    rfl
  · obtain ⟨a, os, rfl, ha, q⟩ := h
    refine ⟨_, pss_cons (ps_set (i := 1) scLS.nd rfl (.inl rfl) pe_int) (pss_cons (ps_set (i := 2) scLS.nd rfl (.inl rfl) pe_int)
      (pss_cons (ps_for PassesOwn.never rfl (pi_list (pv 0)) (pg_name (i := 3) scLS.nd rfl (.inl rfl))
        (pss_cons (ps_set (i := 1) scLS.nd rfl (.inl rfl) (pe_op op_mod (pe_callTy call_int1 (by rfl) N.int (by decide +kernel) (pa_cons (pe_op op_add (pv 1) (pv 3)) pa_nil)) pe_int))
        (pss_one (ps_set (i := 2) scLS.nd rfl (.inl rfl) (pe_op op_mod (pe_callTy call_int1 (by rfl) N.int (by decide +kernel) (pa_cons (pe_op op_add (pv 2) (pv 1)) pa_nil)) pe_int)))))
      (pss_one (ps_ret (pe_op op_add (pe_op op_mul pe_int (pv 2)) (pv 1)))))), ?_⟩
    refine ⟨_, rfl, a, rfl, ⟨_, ha⟩, for_it (walk_list (xs := os.map V.int)) (fun i σ H2 => ∃ y3, σ = [some (.ref a), some (.int (smT os i).1), some (.int (smT os i).2), y3] ∧ H2 = H) ⟨none, rfl, rfl⟩ ?_ ?_ ?_⟩
    · rintro i σ H2 hi ⟨y3, rfl, rfl⟩
      exact ha
    · rintro i x σ H2 H' hi ⟨y3, rfl, rfl⟩ ⟨rfl, hx⟩
      rw [List.length_map] at hi
      rw [List.getElem?_map, List.getElem?_eq_getElem hi] at hx
      obtain rfl := Option.some.inj hx
      rw [smT_succ hi]
      exact ⟨_, rfl, _, rfl, _, _, rfl, rfl, .inl ⟨_, rfl, _, _, rfl, rfl, (by show (0 : Int) < 65521; decide), _, rfl, _, rfl, _, _, rfl, rfl, .inl ⟨_, rfl, _, _, rfl, rfl, (by show (0 : Int) < 65521; decide), _, rfl, rfl⟩⟩⟩
    · rintro σ H2 ⟨y3, rfl, rfl⟩
      rw [List.length_map, smT_end]
      refine ⟨_, rfl, _, _, rfl, rfl, .inl ⟨by decide, by decide⟩, _, rfl, _, _, rfl, rfl, ?_⟩
      rw [Int.mul_comm]
      exact q
end
end K2

namespace K2
open PySem L2
/-! ### what a root holds -/
structure D where
  n : Str
  l : Int
  h : Int
  s : Int
structure T where
  n : Str
  k : Str
structure Ck where
  c : List Int
  o : Int
  l : Int
structure Ar where
  n : Str
  ds : List D
  ts : List T
  cs : List Ck
structure Ve where
  no : Int
  as : List Ar
def D.v (d : D) : List V := [.str d.n, .int d.l, .int d.h, .int d.s]
def T.v (t : T) : List V := [.str t.n, .str t.k]
/-- one by one -/
def All {α : Type} (R : V → α → Prop) (xs : List V) (l : List α) : Prop := xs.length = l.length ∧ ∀ (i : Nat) (a : α), l[i]? = some a → ∃ x, xs[i]? = some x ∧ R x a
theorem All.imp {α : Type} {R S : V → α → Prop} {xs : List V} {l : List α} (h : All R xs l) (k : ∀ x a, R x a → S x a) : All S xs l := ⟨h.1, fun i a e => let ⟨x, e1, e2⟩ := h.2 i a e; ⟨x, e1, k _ _ e2⟩⟩
theorem All.at {α : Type} {R : V → α → Prop} {xs : List V} {l : List α} (h : All R xs l) {i : Nat} {x : V} (hi : i < l.length) (e : xs[i]? = some x) : R x l[i] := by
  obtain ⟨y, e1, e2⟩ := h.2 i l[i] (List.getElem?_eq_getElem hi)
  rw [e] at e1
  obtain rfl := Option.some.inj e1
  exact e2
theorem All.nil {α : Type} {R : V → α → Prop} : All R [] [] := ⟨rfl, fun i a h => by simp at h⟩
theorem All.push {α : Type} {R : V → α → Prop} {xs : List V} {l : List α} {x : V} {a : α} (h : All R xs l) (e : R x a) : All R (xs ++ [x]) (l ++ [a]) := by
  refine ⟨by rw [List.length_append, List.length_append, h.1]; rfl, fun i b hb => ?_⟩
  rcases Nat.lt_trichotomy i l.length with hi | hi | hi
  · rw [List.getElem?_append_left hi] at hb
    obtain ⟨y, h1, h2⟩ := h.2 i b hb
    exact ⟨y, by rw [List.getElem?_append_left (by rw [h.1]; exact hi)]; exact h1, h2⟩
  · subst hi
    rw [List.getElem?_append_right (Nat.le_refl _), Nat.sub_self] at hb
    obtain rfl := Option.some.inj hb
    exact ⟨x, by rw [List.getElem?_append_right (Nat.le_of_eq h.1), h.1, Nat.sub_self]; rfl, e⟩
  · rw [List.getElem?_eq_none (by rw [List.length_append]; show l.length + 1 ≤ i; omega)] at hb
    cases hb
def RowAt (H : Hp) (r : List V) (x : V) : Prop := ∃ a, x = .ref a ∧ H a = some (.tup r)
def TupAt {α : Type} (H : Hp) (R : V → α → Prop) (x : V) (l : List α) : Prop := ∃ a xs, x = .ref a ∧ H a = some (.tup xs) ∧ All R xs l
def ShAt (H : Hp) (C : Addr) (x : V) (ds : List D) (ts : List T) : Prop := ∃ (a dx : Addr) (u v : V), x = .ref a ∧ H a = some (.ins C dx [("dims", u), ("attrs", v)]) ∧ TupAt H (fun y d => RowAt H d.v y) u ds ∧ TupAt H (fun y t => RowAt H t.v y) v ts
def CkAt (H : Hp) (x : V) (c : Ck) : Prop := ∃ a b, x = .ref a ∧ H a = some (.tup [.ref b, .int c.o, .int c.l]) ∧ H b = some (.tup (c.c.map V.int))
def ArAt (H : Hp) (C : Addr) (x : V) (r : Ar) : Prop := ∃ a u v, x = .ref a ∧ H a = some (.tup [.str r.n, u, v]) ∧ ShAt H C u r.ds r.ts ∧ TupAt H (CkAt H) v r.cs
def VeAt (H : Hp) (C : Addr) (x : V) (r : Ve) : Prop := ∃ a v, x = .ref a ∧ H a = some (.tup [.int r.no, v]) ∧ TupAt H (ArAt H C) v r.as
theorem RowAt.same {H H1 : Hp} {r : List V} {x : V} (h : RowAt H r x) (s : Same H H1) : RowAt H1 r x := let ⟨a, e1, e2⟩ := h; ⟨a, e1, s _ _ e2⟩
theorem TupAt.same {α : Type} {H H1 : Hp} {R S : V → α → Prop} {x : V} {l : List α} (h : TupAt H R x l) (s : Same H H1) (k : ∀ x a, R x a → S x a) : TupAt H1 S x l := let ⟨a, xs, e1, e2, e3⟩ := h; ⟨a, xs, e1, s _ _ e2, e3.imp k⟩
theorem ShAt.same {H H1 : Hp} {C : Addr} {x : V} {ds : List D} {ts : List T} (h : ShAt H C x ds ts) (s : Same H H1) : ShAt H1 C x ds ts := let ⟨a, dx, u, v, e1, e2, e3, e4⟩ := h
  ⟨a, dx, u, v, e1, s _ _ e2, e3.same s fun _ _ z => z.same s, e4.same s fun _ _ z => z.same s⟩
theorem CkAt.same {H H1 : Hp} {x : V} {c : Ck} (h : CkAt H x c) (s : Same H H1) : CkAt H1 x c := let ⟨a, b, e1, e2, e3⟩ := h; ⟨a, b, e1, s _ _ e2, s _ _ e3⟩
theorem ArAt.same {H H1 : Hp} {C : Addr} {x : V} {r : Ar} (h : ArAt H C x r) (s : Same H H1) : ArAt H1 C x r := let ⟨a, u, v, e1, e2, e3, e4⟩ := h; ⟨a, u, v, e1, s _ _ e2, e3.same s, e4.same s fun _ _ z => z.same s⟩
theorem VeAt.same {H H1 : Hp} {C : Addr} {x : V} {r : Ve} (h : VeAt H C x r) (s : Same H H1) : VeAt H1 C x r := let ⟨a, v, e1, e2, e3⟩ := h; ⟨a, v, e1, s _ _ e2, e3.same s fun _ _ z => z.same s⟩
/-! ### its octets -/
def KS : List Str := ["int", "flag", "text"]
def kix (k : Str) : Int := if k = "int" then 0 else if k = "flag" then 1 else 2
def eD (d : D) : List Int := wn d.n ++ w4 (d.l + 2147483648) ++ w4 (d.h + 2147483648) ++ w4 d.s
def eT (t : T) : List Int := wn t.n ++ [kix t.k]
def eSh (ds : List D) (ts : List T) : List Int := [(ds.length : Int)] ++ ds.flatMap eD ++ [(ts.length : Int)] ++ ts.flatMap eT
def eCk (c : Ck) : List Int := (c.c ++ [c.o, c.l]).flatMap w4
def eCs (cs : List Ck) : List Int := w4 (cs.length : Int) ++ cs.flatMap eCk
def eAr (r : Ar) : List Int := wn r.n ++ eSh r.ds r.ts ++ eCs r.cs
def eVe (r : Ve) : List Int := w4 r.no ++ w4 (r.as.length : Int) ++ r.as.flatMap eAr
def eRt (up da : Int) (vs : List Ve) : List Int := [77, 83] ++ w4 up ++ w4 da ++ w4 (vs.length : Int) ++ vs.flatMap eVe
theorem fm_take {α : Type} (f : α → List Int) (l : List α) (i : Nat) : ((l.take i).flatMap f).length ≤ (l.flatMap f).length := by
  conv => rhs; rw [← List.take_append_drop i l]
  rw [List.flatMap_append, List.length_append]
  omega
theorem fm_succ {α : Type} (f : α → List Int) {l : List α} {i : Nat} (h : i < l.length) : (l.take (i + 1)).flatMap f = (l.take i).flatMap f ++ f l[i] := by
  rw [List.take_add_one, List.getElem?_eq_getElem h, List.flatMap_append]
  show _ ++ [l[i]].flatMap f = _
  rw [List.flatMap_singleton]
theorem big {n : Nat} (h : n ≤ 1000000) : n ≤ sizeLine := Nat.le_trans h (by decide)
section
variable {P : Program} {w : World} {K : PySem.W.Frag} {mg : Str → Option Value} {base : Heap}
def spWC : Sp := fun vs H Q _ => ∃ (v : V) (cs : List Ck), vs = [v] ∧ TupAt H (CkAt H) v cs ∧ (eCs cs).length ≤ 1000000 ∧ ∀ H' p, Same H H' → H p = none → H' p = some (.lst ((eCs cs).map V.int)) → Q (.ref p) H'
theorem scWC : FnScope ["chunks", "octets", "chunk", "offset", "length", "number"] ["chunks"] (defScope sWriteChunks) := ⟨rfl, rfl, rfl, by decide +kernel, rfl, by decide +kernel, by decide +kernel⟩
theorem ok_wc {f fW : Addr} {fd fdW : FuncData} (F : Fun K "write_chunks" "write_chunks" sWriteChunks f fd) (N : Nm mg) (FW : Fun K "write_four" "write_four" sWriteFour fW fdW) (bW : Binds K fdW ["number"] []) (gW : mg "write_four" = some (.ref fW)) : FnOk P w K mg base CX0 2 f fd ["chunks"] spWC := by
  have GW : FnOk P w K mg base CX0 1 fW fdW ["number"] spW4 := ok_w4 FW
  refine F.ok scWC (fun vs H Q E h => ?_) (fun cdv A outer s H vs Q E hr h => ?_)
  · obtain ⟨v, cs, rfl, _⟩ := h
    rfl
  · obtain ⟨v, cs, rfl, ⟨a, xs, rfl, ha, hall⟩, hl, q⟩ := h
    refine ⟨_, pss_cons (ps_set (i := 1) scWC.nd rfl (.inl rfl) (pe_call GW hr (by rfl) gW FW.kp bW .nil pass0 (pa_cons (pe_callB call_len_seq (by rfl) N.len PySem.boot_len (pa_cons (pv 0) pa_nil)) pa_nil)))
      (pss_cons (ps_for PassesOwn.never rfl (pi_tup (pv 0)) (pg_tup (by rfl) (pgs_cons (pg_name (i := 2) scWC.nd rfl (.inl rfl)) (pgs_cons (pg_name (i := 3) scWC.nd rfl (.inl rfl)) (pgs_cons (pg_name (i := 4) scWC.nd rfl (.inl rfl)) pgs_nil))))
        (pss_one (ps_for PassesOwn.never rfl (pi_tup (pe_tup (StX.pa_star (pv 2) (pa_cons (pv 3) (pa_cons (pv 4) pa_nil))))) (pg_name (i := 5) scWC.nd rfl (.inl rfl))
          (pss_one (ps_expr (pe_bm PySem.F.plainAttrs_list PySem.F.slot_list_extend PySem.F.type_list_extend mt_extend (pv 1) (pa_cons (pe_call GW hr (by rfl) gW FW.kp bW .nil pass0 (pa_cons (pv 5) pa_nil)) pa_nil)))))))
      (pss_one (ps_ret (pv 1)))), ?_⟩
    have hxl := hall.1
    refine ⟨_, rfl, a, xs, rfl, .inr (SqT.of ha), _, rfl, fun p np => ?_⟩
    rw [hxl]
    have s1 : Same H (upd H p (.lst ((w4 (cs.length : Int)).map V.int))) := same_new np
    refine ⟨_, rfl, a, rfl, ⟨_, SqT.of (s1 _ _ ha)⟩, for_it (walk_tup (xs := xs)) (fun i σ H2 => ∃ y2 y3 y4 y5, σ = [some (.ref a), some (.ref p), y2, y3, y4, y5] ∧ Same H H2 ∧ H2 p = some (.lst ((w4 (cs.length : Int) ++ (cs.take i).flatMap eCk).map V.int))) ?_ ?_ ?_ ?_⟩
    · exact ⟨none, none, none, none, rfl, s1, by rw [upd_same]; rfl⟩
    · rintro i σ H2 hi ⟨y2, y3, y4, y5, rfl, s2, _⟩
      exact SqT.of (s2 _ _ ha)
    · rintro i x σ H2 H' hi ⟨y2, y3, y4, y5, rfl, s2, hp⟩ ⟨rfl, hx⟩
      rw [hxl] at hi
      obtain ⟨b, u, rfl, h1, h2⟩ := hall.at hi hx
      have hle : (w4 (cs.length : Int) ++ (cs.take (i + 1)).flatMap eCk).length ≤ 1000000 := by
        have := fm_take eCk cs (i + 1)
        unfold eCs at hl
        rw [List.length_append] at hl ⊢
        omega
      rw [fm_succ eCk hi, ← List.append_assoc] at hle ⊢
      generalize cs[i] = c at h1 h2 hle ⊢
      generalize (w4 (cs.length : Int) ++ (cs.take i).flatMap eCk) = acc at hp hle ⊢
      refine ⟨b, _, rfl, SqT.of (s2 _ _ h1), rfl, _, _, rfl, _, _, rfl, _, _, rfl, rfl, ?_⟩
      have em : c.c.map V.int ++ [V.int c.o, V.int c.l] = (c.c ++ [c.o, c.l]).map V.int := by rw [List.map_append]; rfl
      have hnl : (c.c ++ [c.o, c.l]).length ≤ 1000000 := by
        have : ((c.c ++ [c.o, c.l]).flatMap w4).length = 4 * (c.c ++ [c.o, c.l]).length := by
          generalize (c.c ++ [c.o, c.l]) = l
          induction l with
          | nil => rfl
          | cons x r ih =>
            rw [List.flatMap_cons, List.length_append, ih, List.length_cons]
            show 4 + _ = _
            omega
        rw [List.length_append] at hle
        unfold eCk at hle
        omega
      refine ⟨_, rfl, u, _, rfl, .inl (SqT.of (s2 _ _ h2)), _, rfl, _, rfl, ?_, fun t nt => ?_⟩
      · show (c.c.map V.int ++ [V.int c.o, V.int c.l]).length ≤ _
        rw [em, List.length_map]
        exact big hnl
      have npt : p ≠ t := ne_of_none hp nt
      have ntH : H t = none := s2.free nt
      refine ⟨t, rfl, ⟨_, SqT.of upd_same⟩, for_it (walk_tup (xs := (c.c ++ [c.o, c.l]).map V.int)) (fun j σ H3 => ∃ y5, σ = [some (.ref a), some (.ref p), some (.ref u), some (.int c.o), some (.int c.l), y5] ∧ Same H H3 ∧ H3 t = some (.tup ((c.c ++ [c.o, c.l]).map V.int)) ∧ H3 p = some (.lst ((acc ++ ((c.c ++ [c.o, c.l]).take j).flatMap w4).map V.int))) ?_ ?_ ?_ ?_⟩
      · refine ⟨_, rfl, s2.trans (same_new nt), ?_, ?_⟩
        · rw [upd_same, ← em]
        · rw [upd_ne npt, List.take_zero, List.flatMap_nil, List.append_nil]
          exact hp
      · rintro j σ H3 hj ⟨y5, rfl, s3, ht, _⟩
        exact SqT.of ht
      · rintro j x σ H3 H' hj ⟨y5, rfl, s3, ht, hp3⟩ ⟨rfl, hx⟩
        rw [List.length_map] at hj
        rw [List.getElem?_map, List.getElem?_eq_getElem hj] at hx
        obtain rfl := Option.some.inj hx
        have hle2 : (acc ++ ((c.c ++ [c.o, c.l]).take (j + 1)).flatMap w4).length ≤ 1000000 := by
          have := fm_take w4 (c.c ++ [c.o, c.l]) (j + 1)
          rw [List.length_append] at hle ⊢
          unfold eCk at hle
          omega
        rw [fm_succ w4 hj] at hle2 ⊢
        refine ⟨_, rfl, .inl ⟨rfl, _, .inl (.inl hp3)⟩, _, rfl, _, rfl, fun p2 n2 => ?_⟩
        have n2p : p ≠ p2 := ne_of_none hp3 n2
        refine ⟨p, p2, _, _, rfl, rfl, by rw [upd_ne n2p]; exact hp3, upd_same, ?_, ?_⟩
        · rw [List.length_map, List.length_map]
          rw [← List.append_assoc, List.length_append] at hle2
          exact big hle2
        · refine ⟨_, rfl, fun z o e => ?_, ?_, ?_⟩
          · have e3 := s3 _ _ e
            rw [upd_ne (fun y => by rw [y, np] at e; cases e), upd_ne (ne_of_none e3 n2)]
            exact e3
          · rw [upd_ne (ne_of ht hp3 (by intro z; cases z)), upd_ne (ne_of_none ht n2)]
            exact ht
          · rw [upd_same, ← List.map_append, List.append_assoc]
      · rintro σ H3 ⟨y5, rfl, s3, ht, hp3⟩
        rw [List.length_map, List.take_length] at hp3
        refine ⟨_, _, _, _, rfl, s3, ?_⟩
        rw [hp3]
        rfl
    · rintro σ H2 ⟨y2, y3, y4, y5, rfl, s2, hp⟩
      rw [hxl, List.take_length] at hp
      exact ⟨_, rfl, q H2 p s2 np hp⟩
end
end K2

namespace K2
open PySem L2
def SHf : List Str := ["dims", "attrs"]
structure Ct2 (K : PySem.W.Frag) (mg : Str → Option Value) : Prop where
  lift : ∃ v, mg "LIFT" = some v ∧ RelV (.int 2147483648) v
  kinds : ∃ kk, mg "KINDS" = some (.ref kk) ∧ (∀ H, SqT K H kk (KS.map V.str)) ∧ ∃ o, K.lookup kk = some o ∧ o.cls = .type "tuple" ∧ o.dict = none
structure GD (d : D) : Prop where
  n : d.n.length ≤ 30
structure GT (t : T) : Prop where
  n : t.n.length ≤ 30
  k : t.k ∈ KS
theorem kix_at {k : Str} (h : k ∈ KS) : ∃ j : Nat, KS[j]? = some k ∧ (∀ m, m < j → KS[m]? ≠ some k) ∧ kix k = (j : Int) := by
  have no0 : ∀ m : Nat, m < 0 → KS[m]? ≠ some k := fun m h => absurd h (Nat.not_lt_zero _)
  rcases List.mem_cons.mp h with rfl | h
  · exact ⟨0, rfl, no0, by decide +kernel⟩
  rcases List.mem_cons.mp h with rfl | h
  · refine ⟨1, rfl, fun m hm => ?_, by decide +kernel⟩
    obtain rfl : m = 0 := by omega
    decide +kernel
  rcases List.mem_cons.mp h with rfl | h
  · refine ⟨2, rfl, fun m hm => ?_, by decide +kernel⟩
    match m, hm with
    | 0, _ => decide +kernel
    | 1, _ => decide +kernel
  · exact absurd h List.not_mem_nil
section
variable {P : Program} {w : World} {K : PySem.W.Frag} {mg : Str → Option Value} {base : Heap}
def spWS (C : Addr) : Sp := fun vs H Q _ => ∃ (v : V) (ds : List D) (ts : List T), vs = [v] ∧ ShAt H C v ds ts ∧ (∀ d ∈ ds, GD d) ∧ (∀ t ∈ ts, GT t) ∧ (eSh ds ts).length ≤ 1000000 ∧ ∀ H' p, Same H H' → H p = none → H' p = some (.lst ((eSh ds ts).map V.int)) → Q (.ref p) H'
theorem scWS : FnScope ["shape", "octets", "name", "low", "high", "step", "kind"] ["shape"] (defScope sWriteShape) := ⟨rfl, rfl, rfl, by decide +kernel, rfl, by decide +kernel, by decide +kernel⟩
theorem ok_ws {f fW fN fE C fI : Addr} {fd fdW fdN fdE : FuncData} (F : Fun K "write_shape" "write_shape" sWriteShape f fd) (N : Nm mg) (go : mg "ord" = none) (S : KC K C fI SHf) (Z : Ct2 K mg) (FW : Fun K "write_four" "write_four" sWriteFour fW fdW) (bW : Binds K fdW ["number"] []) (gW : mg "write_four" = some (.ref fW))
    (FN : Fun K "write_name" "write_name" sWriteName fN fdN) (bN : Binds K fdN ["name"] []) (gN : mg "write_name" = some (.ref fN)) (FE : Fun K "encode_text" "encode_text" sEncodeText fE fdE) (bE : Binds K fdE ["text"] []) (gE : mg "encode_text" = some (.ref fE)) : FnOk P w K mg base CX0 3 f fd ["shape"] (spWS C) := by
  have GW : FnOk P w K mg base CX0 1 fW fdW ["number"] spW4 := ok_w4 FW
  have GN : FnOk P w K mg base CX0 2 fN fdN ["name"] spWN := ok_wn FN N go FE bE gE
  refine F.ok scWS (fun vs H Q E h => ?_) (fun cdv A outer s H vs Q E hr h => ?_)
  · obtain ⟨v, ds, ts, rfl, _⟩ := h
    rfl
  · obtain ⟨v, ds, ts, rfl, ⟨a, dx, v1, v2, rfl, ha, ⟨td, xs, rfl, htd, had⟩, ⟨ta, ys, rfl, hta, hat⟩⟩, gd, gt, hl, q⟩ := h
    have hr1 := hr.mono (j := 1) (by decide)
    have hr2 := hr.mono (j := 2) (by decide)
    obtain ⟨lv, ml, rl⟩ := Z.lift
    obtain ⟨kk, mk, hk, ko, ko1, ko2, ko3⟩ := Z.kinds
    refine ⟨_, pss_cons (ps_set (i := 1) scWS.nd rfl (.inl rfl) (pe_lst (pa_cons (pe_callB call_len_seq (by rfl) N.len PySem.boot_len (pa_cons (pe_fld (pv 0) rfl) pa_nil)) pa_nil)))
      (Evl.pss_cut (ps_for PassesOwn.never rfl (pi_tup (pe_fld (pv 0) rfl)) (pg_tup (by rfl) (pgs_cons (pg_name (i := 2) scWS.nd rfl (.inl rfl)) (pgs_cons (pg_name (i := 3) scWS.nd rfl (.inl rfl)) (pgs_cons (pg_name (i := 4) scWS.nd rfl (.inl rfl)) (pgs_cons (pg_name (i := 5) scWS.nd rfl (.inl rfl)) pgs_nil)))))
        (pss_one (ps_expr (pe_bm PySem.F.plainAttrs_list PySem.F.slot_list_extend PySem.F.type_list_extend mt_extend (pv 1) (pa_cons (pe_op op_cat (pe_op op_cat (pe_op op_cat (pe_call GN hr2 (by rfl) gN FN.kp bN .nil pass0 (pa_cons (pv 2) pa_nil)) (pe_call GW hr1 (by rfl) gW FW.kp bW .nil pass0 (pa_cons (pe_op op_add (pv 3) (pe_glob (by rfl) ml rl)) pa_nil)))
            (pe_call GW hr1 (by rfl) gW FW.kp bW .nil pass0 (pa_cons (pe_op op_add (pv 4) (pe_glob (by rfl) ml rl)) pa_nil))) (pe_call GW hr1 (by rfl) gW FW.kp bW .nil pass0 (pa_cons (pv 5) pa_nil))) pa_nil)))))
      (pss_cons (ps_expr (pe_bm PySem.F.plainAttrs_list PySem.F.slot_list_append PySem.F.type_list_append mt_append (pv 1) (pa_cons (pe_callB call_len_seq (by rfl) N.len PySem.boot_len (pa_cons (pe_fld (pv 0) rfl) pa_nil)) pa_nil)))
      (Evl.pss_cut (ps_for PassesOwn.never rfl (pi_tup (pe_fld (pv 0) rfl)) (pg_tup (by rfl) (pgs_cons (pg_name (i := 2) scWS.nd rfl (.inl rfl)) (pgs_cons (pg_name (i := 6) scWS.nd rfl (.inl rfl)) pgs_nil)))
        (pss_one (ps_expr (pe_bm PySem.F.plainAttrs_list PySem.F.slot_list_extend PySem.F.type_list_extend mt_extend (pv 1) (pa_cons (pe_op op_cat (pe_call GN hr2 (by rfl) gN FN.kp bN .nil pass0 (pa_cons (pv 2) pa_nil)) (pe_lst (pa_cons (pe_bm PySem.F.plainAttrs_tuple PySem.F.slot_tuple_index PySem.F.type_tuple_index mt_tup_index (pe_glob (v := .ref kk) (by rfl) mk rfl) (pa_cons (pv 6) pa_nil)) pa_nil))) pa_nil)))))
      (pss_one (ps_ret (pv 1)))))), ?_⟩
    have nC : ∀ {b : Addr} {xs : List V}, H b = some (.tup xs) → b ≠ a := fun e => ne_of e ha (by intro z; cases z)
    refine ⟨_, rfl, a, C, dx, _, .ref td, rfl, ha, S.cl, S.na _ (by decide +kernel), rfl, td, xs, rfl, .inr (SqT.of htd), (by show 1 ≤ sizeLine; decide), fun p np => ?_⟩
    rw [had.1]
    have s1 : Same H (upd H p (.lst [.int (ds.length : Int)])) := same_new np
    have lenB : ([(ds.length : Int)] ++ ds.flatMap eD).length ≤ 1000000 := by
      unfold eSh at hl
      rw [List.length_append, List.length_append] at hl
      omega
    refine ⟨fun σ H2 => ∃ y2 y3 y4 y5 y6, σ = [some (.ref a), some (.ref p), y2, y3, y4, y5, y6] ∧ Same H H2 ∧ H2 p = some (.lst (([(ds.length : Int)] ++ ds.flatMap eD).map V.int)), ?_, ?_⟩
    · refine ⟨_, rfl, a, C, dx, _, .ref td, rfl, s1 _ _ ha, S.cl, S.na _ (by decide +kernel), rfl, td, rfl, ⟨_, SqT.of (s1 _ _ htd)⟩, for_it (walk_tup (xs := xs)) (fun i σ H2 => ∃ y2 y3 y4 y5, σ = [some (.ref a), some (.ref p), y2, y3, y4, y5, none] ∧ Same H H2 ∧ H2 p = some (.lst (([(ds.length : Int)] ++ (ds.take i).flatMap eD).map V.int))) ?_ ?_ ?_ ?_⟩
      · exact ⟨none, none, none, none, rfl, s1, by rw [upd_same]; rfl⟩
      · rintro i σ H2 hi ⟨y2, y3, y4, y5, rfl, s2, _⟩
        exact SqT.of (s2 _ _ htd)
      · rintro i x σ H2 H' hi ⟨y2, y3, y4, y5, rfl, s2, hp⟩ ⟨rfl, hx⟩
        rw [had.1] at hi
        obtain ⟨b, rfl, hb⟩ := had.at hi hx
        have gd1 := (gd _ (List.getElem_mem hi)).n
        have hle : ([(ds.length : Int)] ++ (ds.take (i + 1)).flatMap eD).length ≤ 1000000 := by
          have := fm_take eD ds (i + 1)
          rw [List.length_append] at lenB ⊢
          omega
        rw [fm_succ eD hi, ← List.append_assoc] at hle ⊢
        generalize ds[i] = d at hb gd1 hle ⊢
        generalize ([(ds.length : Int)] ++ (ds.take i).flatMap eD) = acc at hp hle ⊢
        refine ⟨b, _, rfl, SqT.of (s2 _ _ hb), rfl, _, _, rfl, _, _, rfl, _, _, rfl, _, _, rfl, rfl, ?_⟩
        refine ⟨_, rfl, .inl ⟨rfl, _, .inl (.inl hp)⟩, _, rfl, d.n, rfl, by omega, fun H3 p1 s3 n1 e1 => ?_⟩
        refine ⟨_, rfl, _, _, rfl, rfl, _, rfl, fun p2 n2 => ?_⟩
        have q12 : p1 ≠ p2 := ne_of_none e1 n2
        have el1 : (wn d.n).length ≤ 31 := by
          show (nmo d.n).length + 1 ≤ 31
          rw [nmo_len]
          omega
        refine ⟨p1, p2, _, _, rfl, rfl, by rw [upd_ne q12]; exact e1, upd_same, ?_, fun p3 n3 => ?_⟩
        · rw [List.length_map, List.length_map]
          exact big (by show _ + 4 ≤ _; omega)
        refine ⟨_, rfl, _, _, rfl, rfl, _, rfl, fun p4 n4 => ?_⟩
        have q34 : p3 ≠ p4 := ne_of_none upd_same n4
        refine ⟨p3, p4, _, _, rfl, rfl, by rw [upd_ne q34, upd_same], upd_same, ?_, fun p5 n5 => ?_⟩
        · rw [List.length_append, List.length_map, List.length_map, List.length_map]
          exact big (by show _ + 4 + 4 ≤ _; omega)
        refine ⟨_, rfl, _, rfl, fun p6 n6 => ?_⟩
        have q56 : p5 ≠ p6 := ne_of_none upd_same n6
        refine ⟨p5, p6, _, _, rfl, rfl, by rw [upd_ne q56, upd_same], upd_same, ?_, fun p7 n7 => ?_⟩
        · rw [List.length_append, List.length_append, List.length_map, List.length_map, List.length_map, List.length_map]
          exact big (by show _ + 4 + 4 + 4 ≤ _; omega)
        refine ⟨p, p7, _, _, rfl, rfl, same_new n7 _ _ (same_new n6 _ _ (same_new n5 _ _ (same_new n4 _ _ (same_new n3 _ _ (same_new n2 _ _ (s3 _ _ hp)))))), upd_same, ?_, ?_⟩
        · rw [List.length_append] at hle
          refine big (Nat.le_trans (Nat.le_of_eq ?_) hle)
          unfold eD
          simp only [List.length_append, List.length_map]
        · refine ⟨_, _, _, _, rfl, fun z o e => ?_, ?_⟩
          · rw [upd_ne (fun y => by rw [y, np] at e; cases e)]
            exact same_new n7 _ _ (same_new n6 _ _ (same_new n5 _ _ (same_new n4 _ _ (same_new n3 _ _ (same_new n2 _ _ (s3 _ _ (s2 _ _ e)))))))
          · rw [upd_same]
            unfold eD
            simp only [List.map_append]
      · rintro σ H2 ⟨y2, y3, y4, y5, rfl, s2, hp⟩
        rw [had.1, List.take_length] at hp
        exact ⟨_, _, _, _, _, rfl, s2, hp⟩
    · rintro σ H2 ⟨y2, y3, y4, y5, y6, rfl, s2, hp⟩
      refine ⟨_, rfl, .inl ⟨rfl, _, .inl (.inl hp)⟩, _, rfl, a, C, dx, _, .ref ta, rfl, s2 _ _ ha, S.cl, S.na _ (by decide +kernel), rfl, ta, ys, rfl, .inr (SqT.of (s2 _ _ hta)), p, _, _, rfl, rfl, hp, ?_, ?_⟩
      · rw [List.length_map]
        exact Nat.lt_of_le_of_lt lenB (by decide)
      rw [hat.1]
      have s3 : Same H (upd H2 p (.lst (([(ds.length : Int)] ++ ds.flatMap eD).map V.int ++ [.int (ts.length : Int)]))) := same_put s2 np
      have hp3 : (upd H2 p (.lst (([(ds.length : Int)] ++ ds.flatMap eD).map V.int ++ [.int (ts.length : Int)]))) p = some (.lst (([(ds.length : Int)] ++ ds.flatMap eD ++ [(ts.length : Int)]).map V.int)) := by
        rw [upd_same, List.map_append (l₂ := [(ts.length : Int)])]
        rfl
      generalize (upd H2 p (.lst (([(ds.length : Int)] ++ ds.flatMap eD).map V.int ++ [.int (ts.length : Int)]))) = H3 at s3 hp3
      have hl2 : (([(ds.length : Int)] ++ ds.flatMap eD ++ [(ts.length : Int)]) ++ ts.flatMap eT).length ≤ 1000000 := hl
      generalize hpre : ([(ds.length : Int)] ++ ds.flatMap eD ++ [(ts.length : Int)]) = pre at hp3 hl2
      refine ⟨fun σ H2 => ∃ y2 y3 y4 y5 y6, σ = [some (.ref a), some (.ref p), y2, y3, y4, y5, y6] ∧ Same H H2 ∧ H2 p = some (.lst ((pre ++ ts.flatMap eT).map V.int)), ?_, ?_⟩
      · refine ⟨_, rfl, a, C, dx, _, .ref ta, rfl, s3 _ _ ha, S.cl, S.na _ (by decide +kernel), rfl, ta, rfl, ⟨_, SqT.of (s3 _ _ hta)⟩, for_it (walk_tup (xs := ys)) (fun i σ H2 => ∃ y2 y6, σ = [some (.ref a), some (.ref p), y2, y3, y4, y5, y6] ∧ Same H H2 ∧ H2 p = some (.lst ((pre ++ (ts.take i).flatMap eT).map V.int))) ?_ ?_ ?_ ?_⟩
        · exact ⟨_, _, rfl, s3, by rw [List.take_zero, List.flatMap_nil, List.append_nil]; exact hp3⟩
        · rintro i σ H2 hi ⟨y2, y6, rfl, s2, _⟩
          exact SqT.of (s2 _ _ hta)
        · rintro i x σ H2 H' hi ⟨y2, y6, rfl, s2, hp⟩ ⟨rfl, hx⟩
          rw [hat.1] at hi
          obtain ⟨b, rfl, hb⟩ := hat.at hi hx
          have gt1 := gt _ (List.getElem_mem hi)
          have hle : (pre ++ (ts.take (i + 1)).flatMap eT).length ≤ 1000000 := by
            have := fm_take eT ts (i + 1)
            rw [List.length_append] at hl2 ⊢
            omega
          rw [fm_succ eT hi, ← List.append_assoc] at hle ⊢
          generalize ts[i] = t at hb gt1 hle ⊢
          generalize (pre ++ (ts.take i).flatMap eT) = acc at hp hle ⊢
          have tl := gt1.n
          obtain ⟨j, j1, j2, j3⟩ := kix_at gt1.k
          refine ⟨b, _, rfl, SqT.of (s2 _ _ hb), rfl, _, _, rfl, _, _, rfl, rfl, ?_⟩
          refine ⟨_, rfl, .inl ⟨rfl, _, .inl (.inl hp)⟩, _, rfl, t.n, rfl, by omega, fun H3 p1 s3 n1 e1 => ?_⟩
          refine ⟨.inr (.inl ⟨rfl, ko, ko1, ko2, ko3⟩), _, rfl, kk, KS, t.k, j, rfl, rfl, hk _, j1, j2, (by show 1 ≤ sizeLine; decide), fun p2 n2 => ?_⟩
          have q12 : p1 ≠ p2 := ne_of_none e1 n2
          have el1 : (wn t.n).length ≤ 31 := by
            show (nmo t.n).length + 1 ≤ 31
            rw [nmo_len]
            omega
          refine ⟨p1, p2, _, _, rfl, rfl, by rw [upd_ne q12]; exact e1, upd_same, ?_, fun p3 n3 => ?_⟩
          · rw [List.length_map]
            exact big (by show _ + 1 ≤ _; omega)
          refine ⟨p, p3, _, _, rfl, rfl, same_new n3 _ _ (same_new n2 _ _ (s3 _ _ hp)), upd_same, ?_, ?_⟩
          · rw [List.length_append] at hle
            refine big (Nat.le_trans (Nat.le_of_eq ?_) hle)
            unfold eT
            simp only [List.length_append, List.length_map, List.length_cons, List.length_nil]
          · refine ⟨_, _, rfl, fun z o e => ?_, ?_⟩
            · rw [upd_ne (fun y => by rw [y, np] at e; cases e)]
              exact same_new n3 _ _ (same_new n2 _ _ (s3 _ _ (s2 _ _ e)))
            · rw [upd_same]
              unfold eT
              rw [j3]
              simp only [List.map_append]
              rfl
        · rintro σ H2 ⟨y2, y6, rfl, s2, hp⟩
          rw [hat.1, List.take_length] at hp
          exact ⟨_, _, _, _, _, rfl, s2, hp⟩
      · rintro σ H2 ⟨y2, y3, y4, y5, y6, rfl, s2, hp⟩
        refine ⟨_, rfl, q H2 p s2 np ?_⟩
        rw [hp, ← hpre]
        rfl
end
end K2

namespace K2
open PySem L2
def RHf : List Str := ["upcoming", "data", "versions"]
def RtAt (H : Hp) (CR C : Addr) (x : V) (up da : Int) (vs : List Ve) : Prop := ∃ (a dx : Addr) (u : V), x = .ref a ∧ H a = some (.ins CR dx [("upcoming", .int up), ("data", .int da), ("versions", u)]) ∧ TupAt H (VeAt H C) u vs
theorem RtAt.same {H H1 : Hp} {CR C : Addr} {x : V} {up da : Int} {vs : List Ve} (h : RtAt H CR C x up da vs) (s : Same H H1) : RtAt H1 CR C x up da vs := let ⟨a, dx, u, e1, e2, e3⟩ := h; ⟨a, dx, u, e1, s _ _ e2, e3.same s fun _ _ z => z.same s⟩
structure GA (r : Ar) : Prop where
  n : r.n.length ≤ 30
  d : ∀ d ∈ r.ds, GD d
  t : ∀ t ∈ r.ts, GT t
def GV (vs : List Ve) : Prop := ∀ v ∈ vs, ∀ r ∈ v.as, GA r
structure Ct3 (K : PySem.W.Frag) (mg : Str → Option Value) : Prop where
  first : ∃ kf, mg "FIRST_OCTETS" = some (.ref kf) ∧ ∀ H, SqT K H kf ([77, 83].map V.int)
section
variable {P : Program} {w : World} {K : PySem.W.Frag} {mg : Str → Option Value} {base : Heap}
structure EncF (P : Program) (w : World) (K : PySem.W.Frag) (mg : Str → Option Value) (base : Heap) (C : Addr) where
  (f4 fN fS fC fU : Addr)
  (d4 dN dS dC dU : FuncData)
  G4 : FnOk P w K mg base CX0 1 f4 d4 ["number"] spW4
  b4 : Binds K d4 ["number"] []
  k4 : PySem.W.keepIn K (.ref f4) = true
  g4 : mg "write_four" = some (.ref f4)
  GN : FnOk P w K mg base CX0 2 fN dN ["name"] spWN
  bN : Binds K dN ["name"] []
  kN : PySem.W.keepIn K (.ref fN) = true
  gN : mg "write_name" = some (.ref fN)
  GS : FnOk P w K mg base CX0 3 fS dS ["shape"] (spWS C)
  bS : Binds K dS ["shape"] []
  kS : PySem.W.keepIn K (.ref fS) = true
  gS : mg "write_shape" = some (.ref fS)
  GC : FnOk P w K mg base CX0 2 fC dC ["chunks"] spWC
  bC : Binds K dC ["chunks"] []
  kC : PySem.W.keepIn K (.ref fC) = true
  gC : mg "write_chunks" = some (.ref fC)
  GU : FnOk P w K mg base CX0 1 fU dU ["octets"] (spSum K)
  bU : Binds K dU ["octets"] []
  kU : PySem.W.keepIn K (.ref fU) = true
  gU : mg "sum_of" = some (.ref fU)
def spER (CR C : Addr) : Sp := fun vs H Q _ => ∃ (v : V) (up da : Int) (rs : List Ve), vs = [v] ∧ RtAt H CR C v up da rs ∧ GV rs ∧ (eRt up da rs).length ≤ 900000 ∧
  ∀ H' p, Same H H' → H p = none → H' p = some (.lst ((eRt up da rs ++ w4 (sumO (eRt up da rs))).map V.int)) → Q (.ref p) H'
theorem scER : FnScope ["root", "octets", "number", "arrays", "name", "shape", "chunks"] ["root"] (defScope sEncodeRoot) := ⟨rfl, rfl, rfl, by decide +kernel, rfl, by decide +kernel, by decide +kernel⟩
theorem ok_er {f CR C fI : Addr} {fd : FuncData} (F : Fun K "encode_root" "encode_root" sEncodeRoot f fd) (N : Nm mg) (R : KC K CR fI RHf) (Y : Ct3 K mg) (Z : EncF P w K mg base C) : FnOk P w K mg base CX0 4 f fd ["root"] (spER CR C) := by
  have G4 := Z.G4
  have GN := Z.GN
  have GS := Z.GS
  have GC := Z.GC
  have GU := Z.GU
  refine F.ok scER (fun vs H Q E h => ?_) (fun cdv A outer s H vs Q E hr h => ?_)
  · obtain ⟨v, up, da, rs, rfl, _⟩ := h
    rfl
  · obtain ⟨v, up, da, rs, rfl, ⟨a, dx, v1, rfl, ha, ⟨ta, xs, rfl, hta, hall⟩⟩, gv, hl, q⟩ := h
    have hr1 := hr.mono (j := 1) (by decide)
    have hr2 := hr.mono (j := 2) (by decide)
    obtain ⟨kf, mf, hf⟩ := Y.first
    refine ⟨_, pss_cons (ps_set (i := 1) scER.nd rfl (.inl rfl) (pe_op op_cat (pe_op op_cat (pe_op op_cat (pe_callTy call_list_of (by rfl) N.list (by decide +kernel) (pa_cons (pe_glob (v := .ref kf) (by rfl) mf rfl) pa_nil))
        (pe_call G4 hr1 (by rfl) Z.g4 Z.k4 Z.b4 .nil pass0 (pa_cons (pe_fld (pv 0) rfl) pa_nil))) (pe_call G4 hr1 (by rfl) Z.g4 Z.k4 Z.b4 .nil pass0 (pa_cons (pe_fld (pv 0) rfl) pa_nil)))
        (pe_call G4 hr1 (by rfl) Z.g4 Z.k4 Z.b4 .nil pass0 (pa_cons (pe_callB call_len_seq (by rfl) N.len PySem.boot_len (pa_cons (pe_fld (pv 0) rfl) pa_nil)) pa_nil))))
      (Evl.pss_cut (ps_for PassesOwn.never rfl (pi_tup (pe_fld (pv 0) rfl)) (pg_tup (by rfl) (pgs_cons (pg_name (i := 2) scER.nd rfl (.inl rfl)) (pgs_cons (pg_name (i := 3) scER.nd rfl (.inl rfl)) pgs_nil)))
        (pss_cons (ps_expr (pe_bm PySem.F.plainAttrs_list PySem.F.slot_list_extend PySem.F.type_list_extend mt_extend (pv 1) (pa_cons (pe_op op_cat (pe_call G4 hr1 (by rfl) Z.g4 Z.k4 Z.b4 .nil pass0 (pa_cons (pv 2) pa_nil)) (pe_call G4 hr1 (by rfl) Z.g4 Z.k4 Z.b4 .nil pass0 (pa_cons (pe_callB call_len_seq (by rfl) N.len PySem.boot_len (pa_cons (pv 3) pa_nil)) pa_nil))) pa_nil)))
        (pss_one (ps_for PassesOwn.never rfl (pi_tup (pv 3)) (pg_tup (by rfl) (pgs_cons (pg_name (i := 4) scER.nd rfl (.inl rfl)) (pgs_cons (pg_name (i := 5) scER.nd rfl (.inl rfl)) (pgs_cons (pg_name (i := 6) scER.nd rfl (.inl rfl)) pgs_nil))))
          (pss_one (ps_expr (pe_bm PySem.F.plainAttrs_list PySem.F.slot_list_extend PySem.F.type_list_extend mt_extend (pv 1) (pa_cons (pe_op op_cat (pe_op op_cat (pe_call GN hr2 (by rfl) Z.gN Z.kN Z.bN .nil pass0 (pa_cons (pv 4) pa_nil)) (pe_call GS hr (by rfl) Z.gS Z.kS Z.bS .nil pass0 (pa_cons (pv 5) pa_nil))) (pe_call GC hr2 (by rfl) Z.gC Z.kC Z.bC .nil pass0 (pa_cons (pv 6) pa_nil))) pa_nil))))))))
      (pss_one (ps_ret (pe_op op_cat (pv 1) (pe_call G4 hr1 (by rfl) Z.g4 Z.k4 Z.b4 .nil pass0 (pa_cons (pe_call GU hr1 (by rfl) Z.gU Z.kU Z.bU .nil pass0 (pa_cons (pv 1) pa_nil)) pa_nil)))))), ?_⟩
    have nR : NoAttr K CR "upcoming" ∧ NoAttr K CR "data" ∧ NoAttr K CR "versions" := ⟨R.na _ (by decide +kernel), R.na _ (by decide +kernel), R.na _ (by decide +kernel)⟩
    have nta : ta ≠ a := ne_of hta ha (by intro z; cases z)
    refine ⟨kf, _, rfl, .inr (hf _), fun p1 n1 => ?_⟩
    refine ⟨_, rfl, a, CR, dx, _, .int up, rfl, same_new n1 _ _ ha, R.cl, nR.1, rfl, up, rfl, fun p2 n2 => ?_⟩
    have q12 : p1 ≠ p2 := ne_of_none upd_same n2
    refine ⟨p1, p2, _, _, rfl, rfl, by rw [upd_ne q12, upd_same], upd_same, (by show 2 + 4 ≤ sizeLine; decide), fun p3 n3 => ?_⟩
    refine ⟨_, rfl, a, CR, dx, _, .int da, rfl, same_new n3 _ _ (same_new n2 _ _ (same_new n1 _ _ ha)), R.cl, nR.2.1, rfl, da, rfl, fun p4 n4 => ?_⟩
    have q34 : p3 ≠ p4 := ne_of_none upd_same n4
    refine ⟨p3, p4, _, _, rfl, rfl, by rw [upd_ne q34, upd_same], upd_same, (by show 2 + 4 + 4 ≤ sizeLine; decide), fun p5 n5 => ?_⟩
    refine ⟨_, rfl, a, CR, dx, _, .ref ta, rfl, same_new n5 _ _ (same_new n4 _ _ (same_new n3 _ _ (same_new n2 _ _ (same_new n1 _ _ ha)))), R.cl, nR.2.2, rfl, ta, xs, rfl, .inr (SqT.of (same_new n5 _ _ (same_new n4 _ _ (same_new n3 _ _ (same_new n2 _ _ (same_new n1 _ _ hta)))))), _, rfl, fun p6 n6 => ?_⟩
    have q56 : p5 ≠ p6 := ne_of_none upd_same n6
    refine ⟨p5, p6, _, _, rfl, rfl, by rw [upd_ne q56, upd_same], upd_same, (by show 2 + 4 + 4 + 4 ≤ sizeLine; decide), fun p np => ?_⟩
    refine ⟨fun σ H2 => ∃ y2 y3 y4 y5 y6, σ = [some (.ref a), some (.ref p), y2, y3, y4, y5, y6] ∧ Same H H2 ∧ H2 p = some (.lst ((eRt up da rs).map V.int)), ?_, ?_⟩
    · have np0 : H p = none := (same_new n1).free ((same_new n2).free ((same_new n3).free ((same_new n4).free ((same_new n5).free ((same_new n6).free np)))))
      refine ⟨_, rfl, a, CR, dx, _, .ref ta, rfl, same_new np _ _ (same_new n6 _ _ (same_new n5 _ _ (same_new n4 _ _ (same_new n3 _ _ (same_new n2 _ _ (same_new n1 _ _ ha)))))), R.cl, nR.2.2, rfl, ta, rfl, ⟨_, SqT.of (same_new np _ _ (same_new n6 _ _ (same_new n5 _ _ (same_new n4 _ _ (same_new n3 _ _ (same_new n2 _ _ (same_new n1 _ _ hta)))))))⟩,
        for_it (walk_tup (xs := xs)) (fun i σ H2 => ∃ y2 y3 y4 y5 y6, σ = [some (.ref a), some (.ref p), y2, y3, y4, y5, y6] ∧ Same H H2 ∧ H2 p = some (.lst ((([77, 83] ++ w4 up ++ w4 da ++ w4 (rs.length : Int)) ++ (rs.take i).flatMap eVe).map V.int))) ?_ ?_ ?_ ?_⟩
      · refine ⟨none, none, none, none, none, rfl, fun z o e => same_new np _ _ (same_new n6 _ _ (same_new n5 _ _ (same_new n4 _ _ (same_new n3 _ _ (same_new n2 _ _ (same_new n1 _ _ e)))))), ?_⟩
        rw [upd_same, hall.1]
        rfl
      · rintro i σ H2 hi ⟨y2, y3, y4, y5, y6, rfl, s2, _⟩
        exact SqT.of (s2 _ _ hta)
      · rintro i x σ H2 H' hi ⟨y2, y3, y4, y5, y6, rfl, s2, hp⟩ ⟨rfl, hx⟩
        rw [hall.1] at hi
        obtain ⟨b, u, rfl, hb, ⟨tb, zs, rfl, htb, hzs⟩⟩ := hall.at hi hx
        have gv1 := gv _ (List.getElem_mem hi)
        have hle : (([77, 83] ++ w4 up ++ w4 da ++ w4 (rs.length : Int)) ++ (rs.take (i + 1)).flatMap eVe).length ≤ 900000 := by
          have := fm_take eVe rs (i + 1)
          unfold eRt at hl
          rw [List.length_append] at hl ⊢
          omega
        rw [fm_succ eVe hi, ← List.append_assoc] at hle ⊢
        generalize rs[i] = r at hb htb hzs gv1 hle ⊢
        generalize (([77, 83] ++ w4 up ++ w4 da ++ w4 (rs.length : Int)) ++ (rs.take i).flatMap eVe) = acc at hp hle ⊢
        refine ⟨b, _, rfl, SqT.of (s2 _ _ hb), rfl, _, _, rfl, _, _, rfl, rfl, ?_⟩
        refine ⟨_, rfl, .inl ⟨rfl, _, .inl (.inl hp)⟩, _, rfl, _, rfl, fun a1 m1 => ?_⟩
        refine ⟨_, rfl, tb, zs, rfl, .inr (SqT.of (same_new m1 _ _ (s2 _ _ htb))), _, rfl, fun a2 m2 => ?_⟩
        have r12 : a1 ≠ a2 := ne_of_none upd_same m2
        refine ⟨a1, a2, _, _, rfl, rfl, by rw [upd_ne r12, upd_same], upd_same, (by show 4 + 4 ≤ sizeLine; decide), fun a3 m3 => ?_⟩
        have len1 : acc.length + 8 ≤ 900000 := by
          rw [List.length_append] at hle
          unfold eVe at hle
          rw [List.length_append, List.length_append] at hle
          have : (w4 r.no).length = 4 := rfl
          have : (w4 (r.as.length : Int)).length = 4 := rfl
          omega
        refine ⟨p, a3, _, _, rfl, rfl, same_new m3 _ _ (same_new m2 _ _ (same_new m1 _ _ hp)), upd_same, ?_, ?_⟩
        · rw [List.length_map]
          exact big (by show acc.length + 8 ≤ _; omega)
        have sA : ∀ z o, H z = some o → (upd (upd (upd (upd H' a1 (.lst ((w4 r.no).map V.int))) a2 (.lst ((w4 (zs.length : Int)).map V.int))) a3 (.lst ((w4 r.no).map V.int ++ (w4 (zs.length : Int)).map V.int))) p (.lst (acc.map V.int ++ ((w4 r.no).map V.int ++ (w4 (zs.length : Int)).map V.int)))) z = some o := fun z o e => by
          rw [upd_ne (fun y => by rw [y, np0] at e; cases e)]
          exact same_new m3 _ _ (same_new m2 _ _ (same_new m1 _ _ (s2 _ _ e)))
        have hpA : (upd (upd (upd (upd H' a1 (.lst ((w4 r.no).map V.int))) a2 (.lst ((w4 (zs.length : Int)).map V.int))) a3 (.lst ((w4 r.no).map V.int ++ (w4 (zs.length : Int)).map V.int))) p (.lst (acc.map V.int ++ ((w4 r.no).map V.int ++ (w4 (zs.length : Int)).map V.int)))) p = some (.lst ((acc ++ (w4 r.no ++ w4 (r.as.length : Int))).map V.int)) := by
          rw [upd_same, hzs.1]
          simp only [List.map_append]
        have hle2 : ((acc ++ (w4 r.no ++ w4 (r.as.length : Int))) ++ r.as.flatMap eAr).length ≤ 900000 := by
          refine Nat.le_trans (Nat.le_of_eq ?_) hle
          unfold eVe
          simp only [List.length_append]
          omega
        have hend : acc ++ eVe r = (acc ++ (w4 r.no ++ w4 (r.as.length : Int))) ++ r.as.flatMap eAr := by
          unfold eVe
          simp only [List.append_assoc]
        rw [hend]
        generalize (upd (upd (upd (upd H' a1 (.lst ((w4 r.no).map V.int))) a2 (.lst ((w4 (zs.length : Int)).map V.int))) a3 (.lst ((w4 r.no).map V.int ++ (w4 (zs.length : Int)).map V.int))) p (.lst (acc.map V.int ++ ((w4 r.no).map V.int ++ (w4 (zs.length : Int)).map V.int)))) = HA at sA hpA ⊢
        generalize (acc ++ (w4 r.no ++ w4 (r.as.length : Int))) = acc2 at hpA hle2 ⊢
        refine ⟨_, rfl, tb, rfl, ⟨_, SqT.of (sA _ _ htb)⟩, for_it (walk_tup (xs := zs)) (fun j σ H2 => ∃ y4 y5 y6, σ = [some (.ref a), some (.ref p), some (.int r.no), some (.ref tb), y4, y5, y6] ∧ Same H H2 ∧ H2 p = some (.lst ((acc2 ++ (r.as.take j).flatMap eAr).map V.int))) ?_ ?_ ?_ ?_⟩
        · exact ⟨_, _, _, rfl, sA, by rw [List.take_zero, List.flatMap_nil, List.append_nil]; exact hpA⟩
        · rintro j σ H2 hj ⟨y4, y5, y6, rfl, s2, _⟩
          exact SqT.of (s2 _ _ htb)
        · rintro j x σ H2 H3 hj ⟨y4, y5, y6, rfl, s2, hp⟩ ⟨rfl, hx⟩
          rw [hzs.1] at hj
          have har := hzs.at hj hx
          have ga := gv1 _ (List.getElem_mem hj)
          have hle3 : (acc2 ++ (r.as.take (j + 1)).flatMap eAr).length ≤ 900000 := by
            have := fm_take eAr r.as (j + 1)
            rw [List.length_append] at hle2 ⊢
            omega
          rw [fm_succ eAr hj, ← List.append_assoc] at hle3 ⊢
          generalize r.as[j] = ar at har ga hle3 ⊢
          generalize (acc2 ++ (r.as.take j).flatMap eAr) = acc3 at hp hle3 ⊢
          obtain ⟨c, u, v, rfl, hc, hsh, hck⟩ := har
          have len3 : acc3.length + ((wn ar.n).length + (eSh ar.ds ar.ts).length + (eCs ar.cs).length) ≤ 900000 := by
            rw [List.length_append] at hle3
            unfold eAr at hle3
            rw [List.length_append, List.length_append] at hle3
            omega
          refine ⟨c, _, rfl, SqT.of (s2 _ _ hc), rfl, _, _, rfl, _, _, rfl, _, _, rfl, rfl, ?_⟩
          have gn := ga.n
          refine ⟨_, rfl, .inl ⟨rfl, _, .inl (.inl hp)⟩, _, rfl, ar.n, rfl, by omega, fun H4 p1 s4 n1 e1 => ?_⟩
          refine ⟨_, rfl, u, ar.ds, ar.ts, rfl, hsh.same (s2.trans s4), ga.d, ga.t, by omega, fun H5 p2 s5 n2 e2 => ?_⟩
          have e1b := s5 _ _ e1
          refine ⟨p1, p2, _, _, rfl, rfl, e1b, e2, ?_, fun p3 n3 => ?_⟩
          · rw [List.length_map, List.length_map]
            exact big (by omega)
          have s6 := same_new (o := .lst ((wn ar.n).map V.int ++ (eSh ar.ds ar.ts).map V.int)) n3
          refine ⟨_, rfl, v, ar.cs, rfl, hck.same (s2.trans (s4.trans (s5.trans s6))) (fun _ _ z => z.same (s2.trans (s4.trans (s5.trans s6)))), by omega, fun H7 p4 s7 n4 e4 => ?_⟩
          refine ⟨p3, p4, _, _, rfl, rfl, s7 _ _ upd_same, e4, ?_, fun p5 n5 => ?_⟩
          · rw [List.length_append, List.length_map, List.length_map, List.length_map]
            exact big (by omega)
          have s37 := s4.trans (s5.trans (s6.trans s7))
          refine ⟨p, p5, _, _, rfl, rfl, same_new n5 _ _ (s37 _ _ hp), upd_same, ?_, ?_⟩
          · rw [List.length_append, List.length_append, List.length_map, List.length_map, List.length_map, List.length_map]
            exact big (by omega)
          · refine ⟨_, _, _, rfl, fun z o e => ?_, ?_⟩
            · rw [upd_ne (fun y => by rw [y, np0] at e; cases e)]
              exact same_new n5 _ _ (s37 _ _ (s2 _ _ e))
            · rw [upd_same]
              unfold eAr
              simp only [List.map_append]
        · rintro σ H2 ⟨y4, y5, y6, rfl, s2, hp⟩
          rw [hzs.1, List.take_length] at hp
          exact ⟨_, _, _, _, _, rfl, s2, hp⟩
      · rintro σ H2 ⟨y2, y3, y4, y5, y6, rfl, s2, hp⟩
        rw [hall.1, List.take_length] at hp
        exact ⟨_, _, _, _, _, rfl, s2, hp⟩
    · rintro σ H2 ⟨y2, y3, y4, y5, y6, rfl, s2, hp⟩
      refine ⟨_, rfl, _, rfl, p, _, rfl, .inl (.inl hp), _, rfl, fun p8 n8 => ?_⟩
      have q8 : p ≠ p8 := ne_of_none hp n8
      refine ⟨p, p8, _, _, rfl, rfl, by rw [upd_ne q8]; exact hp, upd_same, ?_, fun p9 n9 => ?_⟩
      · rw [List.length_map, List.length_map]
        exact big (by show _ + 4 ≤ _; omega)
      · refine q _ p9 (fun z o e => same_new n9 _ _ (same_new n8 _ _ (s2 _ _ e))) (s2.free ((same_new n8).free n9)) ?_
        rw [upd_same, List.map_append]
end
end K2

namespace K2
open PySem L2
/-- a list of octets, and nothing else is changed -/
structure Oc (H0 H : Hp) (p : Addr) (acc : List Int) : Prop where
  s : Same H0 H
  e : H p = some (.lst (acc.map V.int))
section
variable {P : Program} {w : World} {K : PySem.W.Frag} {mg : Str → Option Value} {base : Heap}
structure OctF (P : Program) (w : World) (K : PySem.W.Frag) (mg : Str → Option Value) (base : Heap) where
  (f4 fN : Addr)
  (d4 dN : FuncData)
  G4 : FnOk P w K mg base CX0 1 f4 d4 ["number"] spW4
  b4 : Binds K d4 ["number"] []
  k4 : PySem.W.keepIn K (.ref f4) = true
  g4 : mg "_law_number" = some (.ref f4)
  GN : FnOk P w K mg base CX0 1 fN dN ["name"] spWN
  bN : Binds K dN ["name"] []
  kN : PySem.W.keepIn K (.ref fN) = true
  gN : mg "_law_name" = some (.ref fN)
def spLO (CR C : Addr) : Sp := fun vs H Q _ => ∃ (v : V) (up da : Int) (rs : List Ve), vs = [v] ∧ RtAt H CR C v up da rs ∧ GV rs ∧ (eRt up da rs).length ≤ 900000 ∧ ∀ H' p, Oc H H' p (eRt up da rs) → Q (.ref p) H'
theorem scLO : FnScope ["root", "octets", "number", "arrays", "name", "shape", "chunks", "one", "low", "high", "step", "kind", "chunk", "offset", "length", "index"] ["root"] (defScope sLOctets) := ⟨rfl, rfl, rfl, by decide +kernel, rfl, by decide +kernel, by decide +kernel⟩
theorem ok_lo {f CR C fI f2 : Addr} {fd : FuncData} (F : Fun K "_law_octets" "_law_octets" sLOctets f fd) (N : Nm mg) (R : KC K CR fI RHf) (S : KC K C f2 SHf) (Z : OctF P w K mg base) : FnOk P w K mg base CX0 2 f fd ["root"] (spLO CR C) := by
  have G4 := Z.G4
  have GN := Z.GN
  refine F.ok scLO (fun vs H Q E h => ?_) (fun cdv A outer s H vs Q E hr h => ?_)
  · obtain ⟨v, up, da, rs, rfl, _⟩ := h
    rfl
  · obtain ⟨v, up, da, rs, rfl, ⟨a, dx, v1, rfl, ha, ⟨ta, xs, rfl, hta, hall⟩⟩, gv, hl, q⟩ := h
    have hr1 := hr
    have nR : NoAttr K CR "upcoming" ∧ NoAttr K CR "data" ∧ NoAttr K CR "versions" := ⟨R.na _ (by decide +kernel), R.na _ (by decide +kernel), R.na _ (by decide +kernel)⟩
    refine ⟨_, (pss_cons (ps_set (i := 1) scLO.nd rfl (.inl rfl) (pe_op op_cat (pe_op op_cat (pe_op op_cat (pe_lst (pa_cons (pe_int) (pa_cons (pe_int) pa_nil))) (pe_call G4 hr1 (by rfl) Z.g4 Z.k4 Z.b4 .nil pass0 (pa_cons (pe_fld (pv 0) rfl) pa_nil))) (pe_call G4 hr1 (by rfl) Z.g4 Z.k4 Z.b4 .nil pass0 (pa_cons (pe_fld (pv 0) rfl) pa_nil))) (pe_call G4 hr1 (by rfl) Z.g4 Z.k4 Z.b4 .nil pass0 (pa_cons (pe_callB call_len_seq (by rfl) N.len PySem.boot_len (pa_cons (pe_fld (pv 0) rfl) pa_nil)) pa_nil))))
      (pss_cons (ps_for PassesOwn.never rfl (pi_tup (pe_fld (pv 0) rfl)) (pg_tup (by rfl) (pgs_cons (pg_name (i := 2) scLO.nd rfl (.inl rfl)) (pgs_cons (pg_name (i := 3) scLO.nd rfl (.inl rfl)) pgs_nil))) (pss_cons (ps_set (i := 1) scLO.nd rfl (.inl rfl) (pe_op op_cat (pe_op op_cat (pv 1) (pe_call G4 hr1 (by rfl) Z.g4 Z.k4 Z.b4 .nil pass0 (pa_cons (pv 2) pa_nil))) (pe_call G4 hr1 (by rfl) Z.g4 Z.k4 Z.b4 .nil pass0 (pa_cons (pe_callB call_len_seq (by rfl) N.len PySem.boot_len (pa_cons (pv 3) pa_nil)) pa_nil))))
      (pss_one (ps_for PassesOwn.never rfl (pi_tup (pv 3)) (pg_tup (by rfl) (pgs_cons (pg_name (i := 4) scLO.nd rfl (.inl rfl)) (pgs_cons (pg_name (i := 5) scLO.nd rfl (.inl rfl)) (pgs_cons (pg_name (i := 6) scLO.nd rfl (.inl rfl)) pgs_nil)))) (pss_cons (ps_set (i := 1) scLO.nd rfl (.inl rfl) (pe_op op_cat (pe_op op_cat (pv 1) (pe_call GN hr1 (by rfl) Z.gN Z.kN Z.bN .nil pass0 (pa_cons (pv 4) pa_nil))) (pe_lst (pa_cons (pe_callB call_len_seq (by rfl) N.len PySem.boot_len (pa_cons (pe_fld (pv 5) rfl) pa_nil)) pa_nil))))
      (Evl.pss_cut (ps_for PassesOwn.never rfl (pi_tup (pe_fld (pv 5) rfl)) (pg_tup (by rfl) (pgs_cons (pg_name (i := 7) scLO.nd rfl (.inl rfl)) (pgs_cons (pg_name (i := 8) scLO.nd rfl (.inl rfl)) (pgs_cons (pg_name (i := 9) scLO.nd rfl (.inl rfl)) (pgs_cons (pg_name (i := 10) scLO.nd rfl (.inl rfl)) pgs_nil))))) (pss_cons (ps_set (i := 1) scLO.nd rfl (.inl rfl) (pe_op op_cat (pe_op op_cat (pe_op op_cat (pv 1) (pe_call GN hr1 (by rfl) Z.gN Z.kN Z.bN .nil pass0 (pa_cons (pv 7) pa_nil))) (pe_call G4 hr1 (by rfl) Z.g4 Z.k4 Z.b4 .nil pass0 (pa_cons (pe_op op_add pe_int (pv 8)) pa_nil))) (pe_call G4 hr1 (by rfl) Z.g4 Z.k4 Z.b4 .nil pass0 (pa_cons (pe_op op_add pe_int (pv 9)) pa_nil))))
      (pss_one (ps_set (i := 1) scLO.nd rfl (.inl rfl) (pe_op op_cat (pv 1) (pe_call G4 hr1 (by rfl) Z.g4 Z.k4 Z.b4 .nil pass0 (pa_cons (pv 10) pa_nil)))))))
      (pss_cons (ps_set (i := 1) scLO.nd rfl (.inl rfl) (pe_op op_cat (pv 1) (pe_lst (pa_cons (pe_callB call_len_seq (by rfl) N.len PySem.boot_len (pa_cons (pe_fld (pv 5) rfl) pa_nil)) pa_nil))))
      (Evl.pss_cut (ps_for PassesOwn.never rfl (pi_tup (pe_fld (pv 5) rfl)) (pg_tup (by rfl) (pgs_cons (pg_name (i := 7) scLO.nd rfl (.inl rfl)) (pgs_cons (pg_name (i := 11) scLO.nd rfl (.inl rfl)) pgs_nil))) (pss_one (ps_set (i := 1) scLO.nd rfl (.inl rfl) (pe_op op_cat (pe_op op_cat (pv 1) (pe_call GN hr1 (by rfl) Z.gN Z.kN Z.bN .nil pass0 (pa_cons (pv 7) pa_nil))) (pe_lst (pa_cons (pe_bm PySem.F.plainAttrs_list PySem.F.slot_list_index PySem.F.type_list_index mt_index (pe_lst (pa_cons (pe_str) (pa_cons (pe_str) (pa_cons (pe_str) pa_nil)))) (pa_cons (pv 11) pa_nil)) pa_nil))))))
      (pss_cons (ps_set (i := 1) scLO.nd rfl (.inl rfl) (pe_op op_cat (pv 1) (pe_call G4 hr1 (by rfl) Z.g4 Z.k4 Z.b4 .nil pass0 (pa_cons (pe_callB call_len_seq (by rfl) N.len PySem.boot_len (pa_cons (pv 6) pa_nil)) pa_nil))))
      (pss_one (ps_for PassesOwn.never rfl (pi_tup (pv 6)) (pg_tup (by rfl) (pgs_cons (pg_name (i := 12) scLO.nd rfl (.inl rfl)) (pgs_cons (pg_name (i := 13) scLO.nd rfl (.inl rfl)) (pgs_cons (pg_name (i := 14) scLO.nd rfl (.inl rfl)) pgs_nil)))) (Evl.pss_cut (ps_for PassesOwn.never rfl (pi_tup (pv 12)) (pg_name (i := 15) scLO.nd rfl (.inl rfl)) (pss_one (ps_set (i := 1) scLO.nd rfl (.inl rfl) (pe_op op_cat (pv 1) (pe_call G4 hr1 (by rfl) Z.g4 Z.k4 Z.b4 .nil pass0 (pa_cons (pv 15) pa_nil))))))
      (pss_one (ps_set (i := 1) scLO.nd rfl (.inl rfl) (pe_op op_cat (pe_op op_cat (pv 1) (pe_call G4 hr1 (by rfl) Z.g4 Z.k4 Z.b4 .nil pass0 (pa_cons (pv 13) pa_nil))) (pe_call G4 hr1 (by rfl) Z.g4 Z.k4 Z.b4 .nil pass0 (pa_cons (pv 14) pa_nil)))))))))))))))))
      (pss_one (ps_ret (pv 1))))), ?_⟩
    have nta : ta ≠ a := ne_of hta ha (by intro z; cases z)
    refine ⟨(by show 2 ≤ sizeLine; decide), fun p1 n1 => ?_⟩
    refine ⟨_, rfl, a, CR, dx, _, .int up, rfl, same_new n1 _ _ ha, R.cl, nR.1, rfl, up, rfl, fun p2 n2 => ?_⟩
    have q12 : p1 ≠ p2 := ne_of_none upd_same n2
    refine ⟨p1, p2, _, _, rfl, rfl, by rw [upd_ne q12, upd_same], upd_same, (by show 2 + 4 ≤ sizeLine; decide), fun p3 n3 => ?_⟩
    refine ⟨_, rfl, a, CR, dx, _, .int da, rfl, same_new n3 _ _ (same_new n2 _ _ (same_new n1 _ _ ha)), R.cl, nR.2.1, rfl, da, rfl, fun p4 n4 => ?_⟩
    have q34 : p3 ≠ p4 := ne_of_none upd_same n4
    refine ⟨p3, p4, _, _, rfl, rfl, by rw [upd_ne q34, upd_same], upd_same, (by show 2 + 4 + 4 ≤ sizeLine; decide), fun p5 n5 => ?_⟩
    refine ⟨_, rfl, a, CR, dx, _, .ref ta, rfl, same_new n5 _ _ (same_new n4 _ _ (same_new n3 _ _ (same_new n2 _ _ (same_new n1 _ _ ha)))), R.cl, nR.2.2, rfl, ta, xs, rfl, .inr (SqT.of (same_new n5 _ _ (same_new n4 _ _ (same_new n3 _ _ (same_new n2 _ _ (same_new n1 _ _ hta)))))), _, rfl, fun p6 n6 => ?_⟩
    have q56 : p5 ≠ p6 := ne_of_none upd_same n6
    refine ⟨p5, p6, _, _, rfl, rfl, by rw [upd_ne q56, upd_same], upd_same, (by show 2 + 4 + 4 + 4 ≤ sizeLine; decide), fun p np => ?_⟩
    refine ⟨_, rfl, a, CR, dx, _, .ref ta, rfl, same_new np _ _ (same_new n6 _ _ (same_new n5 _ _ (same_new n4 _ _ (same_new n3 _ _ (same_new n2 _ _ (same_new n1 _ _ ha)))))), R.cl, nR.2.2, rfl, ta, rfl, ⟨_, SqT.of (same_new np _ _ (same_new n6 _ _ (same_new n5 _ _ (same_new n4 _ _ (same_new n3 _ _ (same_new n2 _ _ (same_new n1 _ _ hta)))))))⟩,
      for_it (walk_tup (xs := xs)) (fun i σ H2 => ∃ p y2 y3 y4 y5 y6 y7 y8 y9 y10 y11 y12 y13 y14 y15, σ = [some (.ref a), some (.ref p), y2, y3, y4, y5, y6, y7, y8, y9, y10, y11, y12, y13, y14, y15] ∧ Oc H H2 p (([77, 83] ++ w4 up ++ w4 da ++ w4 (rs.length : Int)) ++ (rs.take i).flatMap eVe)) ?_ ?_ ?_ ?_⟩
    · refine ⟨p, none, none, none, none, none, none, none, none, none, none, none, none, none, none, rfl, fun z o e => same_new np _ _ (same_new n6 _ _ (same_new n5 _ _ (same_new n4 _ _ (same_new n3 _ _ (same_new n2 _ _ (same_new n1 _ _ e)))))), ?_⟩
      rw [upd_same, hall.1]
      rfl
    · rintro i σ H2 hi ⟨p, y2, y3, y4, y5, y6, y7, y8, y9, y10, y11, y12, y13, y14, y15, rfl, oc⟩
      exact SqT.of (oc.s _ _ hta)
    · rintro i x σ H2 H' hi ⟨p, y2, y3, y4, y5, y6, y7, y8, y9, y10, y11, y12, y13, y14, y15, rfl, oc⟩ ⟨rfl, hx⟩
      rw [hall.1] at hi
      obtain ⟨b, u, rfl, hb, ⟨tb, zs, rfl, htb, hzs⟩⟩ := hall.at hi hx
      have gv1 := gv _ (List.getElem_mem hi)
      have hle : (([77, 83] ++ w4 up ++ w4 da ++ w4 (rs.length : Int)) ++ (rs.take (i + 1)).flatMap eVe).length ≤ 900000 := by
        have := fm_take eVe rs (i + 1)
        unfold eRt at hl
        rw [List.length_append] at hl ⊢
        omega
      rw [fm_succ eVe hi, ← List.append_assoc] at hle ⊢
      generalize rs[i] = r at hb htb hzs gv1 hle ⊢
      generalize (([77, 83] ++ w4 up ++ w4 da ++ w4 (rs.length : Int)) ++ (rs.take i).flatMap eVe) = acc at oc hle ⊢
      have hend : acc ++ eVe r = (acc ++ w4 r.no ++ w4 (r.as.length : Int)) ++ r.as.flatMap eAr := by
        unfold eVe
        simp only [List.append_assoc]
      rw [hend] at hle ⊢
      have len0 : acc.length + 8 ≤ 900000 := by
        rw [List.length_append, List.length_append, List.length_append] at hle
        have : (w4 r.no).length = 4 := rfl
        have : (w4 (r.as.length : Int)).length = 4 := rfl
        omega
      refine ⟨b, _, rfl, SqT.of (oc.s _ _ hb), rfl, _, _, rfl, _, _, rfl, rfl, ?_⟩
      refine ⟨_, rfl, _, rfl, r.no, rfl, fun a1 m1 => ?_⟩
      refine ⟨p, a1, _, _, rfl, rfl, same_new m1 _ _ oc.e, upd_same, (by rw [List.length_map]; exact big (by show _ + 4 ≤ _; omega)), fun a2 m2 => ?_⟩
      refine ⟨_, rfl, tb, zs, rfl, .inr (SqT.of (same_new m2 _ _ (same_new m1 _ _ (oc.s _ _ htb)))), _, rfl, fun a3 m3 => ?_⟩
      have r23 : a2 ≠ a3 := ne_of_none upd_same m3
      refine ⟨a2, a3, _, _, rfl, rfl, by rw [upd_ne r23, upd_same], upd_same, (by rw [List.length_append, List.length_map]; exact big (by show _ + 4 + 4 ≤ _; omega)), fun a4 m4 => ?_⟩
      refine ⟨_, rfl, tb, rfl, ⟨_, SqT.of (same_new m4 _ _ (same_new m3 _ _ (same_new m2 _ _ (same_new m1 _ _ (oc.s _ _ htb)))))⟩,
        for_it (walk_tup (xs := zs)) (fun j σ H2 => ∃ p y4 y5 y6 y7 y8 y9 y10 y11 y12 y13 y14 y15, σ = [some (.ref a), some (.ref p), some (.int r.no), some (.ref tb), y4, y5, y6, y7, y8, y9, y10, y11, y12, y13, y14, y15] ∧ Oc H H2 p ((acc ++ w4 r.no ++ w4 (r.as.length : Int)) ++ (r.as.take j).flatMap eAr)) ?_ ?_ ?_ ?_⟩
      · refine ⟨a4, _, _, _, _, _, _, _, _, _, _, _, _, rfl, fun z o e => same_new m4 _ _ (same_new m3 _ _ (same_new m2 _ _ (same_new m1 _ _ (oc.s _ _ e)))), ?_⟩
        rw [upd_same, hzs.1, List.take_zero, List.flatMap_nil, List.append_nil]
        simp only [List.map_append]
      · rintro j σ H2 hj ⟨p, y4, y5, y6, y7, y8, y9, y10, y11, y12, y13, y14, y15, rfl, oc⟩
        exact SqT.of (oc.s _ _ htb)
      · rintro j x σ H2 H3 hj ⟨p, y4, y5, y6, y7, y8, y9, y10, y11, y12, y13, y14, y15, rfl, oc⟩ ⟨rfl, hx⟩
        rw [hzs.1] at hj
        have har := hzs.at hj hx
        have ga := gv1 _ (List.getElem_mem hj)
        have hle3 : ((acc ++ w4 r.no ++ w4 (r.as.length : Int)) ++ (r.as.take (j + 1)).flatMap eAr).length ≤ 900000 := by
          have := fm_take eAr r.as (j + 1)
          rw [List.length_append] at hle ⊢
          omega
        rw [fm_succ eAr hj, ← List.append_assoc] at hle3 ⊢
        generalize r.as[j] = ar at har ga hle3 ⊢
        generalize ((acc ++ w4 r.no ++ w4 (r.as.length : Int)) ++ (r.as.take j).flatMap eAr) = acc3 at oc hle3 ⊢
        obtain ⟨c, u, v, rfl, hc, ⟨sa, sdx, su, sv, rfl, hsa, ⟨std, sxs, rfl, hstd, hsds⟩, ⟨sta, sys, rfl, hsta, hsts⟩⟩, ⟨tc, cxs, rfl, htc, hcs⟩⟩ := har
        have hend3 : acc3 ++ eAr ar = ((((acc3 ++ wn ar.n ++ [(ar.ds.length : Int)]) ++ ar.ds.flatMap eD) ++ [(ar.ts.length : Int)]) ++ ar.ts.flatMap eT ++ w4 (ar.cs.length : Int)) ++ ar.cs.flatMap eCk := by
          unfold eAr eSh eCs
          simp only [List.append_assoc]
        rw [hend3] at hle3 ⊢
        have b5 : ((((acc3 ++ wn ar.n ++ [(ar.ds.length : Int)]) ++ ar.ds.flatMap eD) ++ [(ar.ts.length : Int)]) ++ ar.ts.flatMap eT ++ w4 (ar.cs.length : Int)).length ≤ 900000 := by
          rw [List.length_append] at hle3; omega
        have b4 : ((((acc3 ++ wn ar.n ++ [(ar.ds.length : Int)]) ++ ar.ds.flatMap eD) ++ [(ar.ts.length : Int)]) ++ ar.ts.flatMap eT).length ≤ 900000 := by
          rw [List.length_append] at b5; omega
        have b3 : (((acc3 ++ wn ar.n ++ [(ar.ds.length : Int)]) ++ ar.ds.flatMap eD) ++ [(ar.ts.length : Int)]).length ≤ 900000 := by
          rw [List.length_append] at b4; omega
        have b2 : ((acc3 ++ wn ar.n ++ [(ar.ds.length : Int)]) ++ ar.ds.flatMap eD).length ≤ 900000 := by
          rw [List.length_append] at b3; omega
        have b1 : (acc3 ++ wn ar.n ++ [(ar.ds.length : Int)]).length ≤ 900000 := by
          rw [List.length_append] at b2; omega
        have b0 : (acc3 ++ wn ar.n).length ≤ 900000 := by
          rw [List.length_append] at b1; omega
        have gn := ga.n
        refine ⟨c, _, rfl, SqT.of (oc.s _ _ hc), rfl, _, _, rfl, _, _, rfl, _, _, rfl, rfl, ?_⟩
        refine ⟨_, rfl, _, rfl, ar.n, rfl, by omega, fun H4 p1 s4 n1 e1 => ?_⟩
        refine ⟨p, p1, _, _, rfl, rfl, s4 _ _ oc.e, e1, (by rw [List.length_map, List.length_map, ← List.length_append]; exact big (by omega)), fun p2 n2 => ?_⟩
        refine ⟨_, rfl, sa, C, sdx, _, .ref std, rfl, same_new n2 _ _ (s4 _ _ (oc.s _ _ hsa)), S.cl, S.na _ (by decide +kernel), rfl, std, sxs, rfl, .inr (SqT.of (same_new n2 _ _ (s4 _ _ (oc.s _ _ hstd)))), (by show 1 ≤ sizeLine; decide), fun p3 n3 => ?_⟩
        have r23 : p2 ≠ p3 := ne_of_none upd_same n3
        refine ⟨p2, p3, _, _, rfl, rfl, by rw [upd_ne r23, upd_same], upd_same, (by rw [List.length_append, List.length_map, List.length_map, ← List.length_append]; exact big (by show _ + 1 ≤ _; omega)), fun p4 n4 => ?_⟩
        have oc4 : ∀ z o, H z = some o → _ = some o := fun z o e => same_new (o := .lst (acc3.map V.int ++ (wn ar.n).map V.int ++ [.int (sxs.length : Int)])) n4 z o (same_new n3 _ _ (same_new n2 _ _ (s4 _ _ (oc.s _ _ e))))
        refine ⟨fun σ H5 => ∃ p y7 y8 y9 y10, σ = [some (.ref a), some (.ref p), some (.int r.no), some (.ref tb), some (.str ar.n), some (.ref sa), some (.ref tc), y7, y8, y9, y10, y11, y12, y13, y14, y15] ∧ Oc H H5 p ((acc3 ++ wn ar.n ++ [(ar.ds.length : Int)]) ++ ar.ds.flatMap eD), ?_, ?_⟩
        · refine ⟨_, rfl, sa, C, sdx, _, .ref std, rfl, oc4 _ _ hsa, S.cl, S.na _ (by decide +kernel), rfl, std, rfl, ⟨_, SqT.of (oc4 _ _ hstd)⟩, for_it (walk_tup (xs := sxs)) (fun k σ H5 => ∃ p y7 y8 y9 y10, σ = [some (.ref a), some (.ref p), some (.int r.no), some (.ref tb), some (.str ar.n), some (.ref sa), some (.ref tc), y7, y8, y9, y10, y11, y12, y13, y14, y15] ∧ Oc H H5 p ((acc3 ++ wn ar.n ++ [(ar.ds.length : Int)]) ++ (ar.ds.take k).flatMap eD)) ?_ ?_ ?_ ?_⟩
          · refine ⟨p4, _, _, _, _, rfl, oc4, ?_⟩
            rw [upd_same, hsds.1, List.take_zero, List.flatMap_nil, List.append_nil]
            simp only [List.map_append]
            rfl
          · rintro k σ H5 hk ⟨p, y7, y8, y9, y10, rfl, oc⟩
            exact SqT.of (oc.s _ _ hstd)
          · rintro k x σ H5 H6 hk ⟨p, y7, y8, y9, y10, rfl, oc⟩ ⟨rfl, hx⟩
            rw [hsds.1] at hk
            obtain ⟨b, rfl, hb⟩ := hsds.at hk hx
            have gd1 := (ga.d _ (List.getElem_mem hk)).n
            have hle4 : ((acc3 ++ wn ar.n ++ [(ar.ds.length : Int)]) ++ (ar.ds.take (k + 1)).flatMap eD).length ≤ 900000 := by
              have := fm_take eD ar.ds (k + 1)
              rw [List.length_append] at b2 ⊢
              omega
            rw [fm_succ eD hk, ← List.append_assoc] at hle4 ⊢
            generalize ar.ds[k] = d at hb gd1 hle4 ⊢
            generalize ((acc3 ++ wn ar.n ++ [(ar.ds.length : Int)]) ++ (ar.ds.take k).flatMap eD) = ac at oc hle4 ⊢
            have hlen : ac.length + (wn d.n).length + 12 ≤ 900000 := by
              rw [List.length_append] at hle4
              unfold eD at hle4
              rw [List.length_append, List.length_append, List.length_append] at hle4
              have : (w4 (d.l + 2147483648)).length = 4 := rfl
              have : (w4 (d.h + 2147483648)).length = 4 := rfl
              have : (w4 d.s).length = 4 := rfl
              omega
            refine ⟨b, _, rfl, SqT.of (oc.s _ _ hb), rfl, _, _, rfl, _, _, rfl, _, _, rfl, _, _, rfl, rfl, ?_⟩
            refine ⟨_, rfl, _, rfl, d.n, rfl, by omega, fun H7 p1 s7 n1 e1 => ?_⟩
            refine ⟨p, p1, _, _, rfl, rfl, s7 _ _ oc.e, e1, (by rw [List.length_map, List.length_map]; exact big (by omega)), fun p2 n2 => ?_⟩
            refine ⟨_, rfl, _, _, rfl, rfl, _, rfl, fun p3 n3 => ?_⟩
            have r23 : p2 ≠ p3 := ne_of_none upd_same n3
            refine ⟨p2, p3, _, _, rfl, rfl, by rw [upd_ne r23, upd_same], upd_same, (by rw [List.length_append, List.length_map, List.length_map]; exact big (by show _ + 4 ≤ _; omega)), fun p4 n4 => ?_⟩
            refine ⟨_, rfl, _, _, rfl, rfl, _, rfl, fun p5 n5 => ?_⟩
            have r45 : p4 ≠ p5 := ne_of_none upd_same n5
            refine ⟨p4, p5, _, _, rfl, rfl, by rw [upd_ne r45, upd_same], upd_same, (by rw [List.length_append, List.length_append, List.length_map, List.length_map]; exact big (by show _ + 4 + 4 ≤ _; omega)), fun p6 n6 => ?_⟩
            refine ⟨_, rfl, _, rfl, _, rfl, fun p7 n7 => ?_⟩
            have r67 : p6 ≠ p7 := ne_of_none upd_same n7
            refine ⟨p6, p7, _, _, rfl, rfl, by rw [upd_ne r67, upd_same], upd_same, (by rw [List.length_append, List.length_append, List.length_append, List.length_map, List.length_map]; exact big (by show _ + 4 + 4 + 4 ≤ _; omega)), fun p8 n8 => ?_⟩
            refine ⟨p8, _, _, _, _, rfl, fun z o e => same_new n8 _ _ (same_new n7 _ _ (same_new n6 _ _ (same_new n5 _ _ (same_new n4 _ _ (same_new n3 _ _ (same_new n2 _ _ (s7 _ _ (oc.s _ _ e)))))))), ?_⟩
            rw [upd_same]
            unfold eD
            rw [Int.add_comm d.l, Int.add_comm d.h]
            simp only [List.map_append, List.append_assoc]
          · rintro σ H5 ⟨p, y7, y8, y9, y10, rfl, oc⟩
            rw [hsds.1, List.take_length] at oc
            exact ⟨p, _, _, _, _, rfl, oc⟩
        rintro σ H5 ⟨p, y7, y8, y9, y10, rfl, oc⟩
        have oc5 := oc.s
        refine ⟨_, rfl, _, rfl, sa, C, sdx, _, .ref sta, rfl, oc5 _ _ hsa, S.cl, S.na _ (by decide +kernel), rfl, sta, sys, rfl, .inr (SqT.of (oc5 _ _ hsta)), (by show 1 ≤ sizeLine; decide), fun p1 n1 => ?_⟩
        refine ⟨p, p1, _, _, rfl, rfl, same_new n1 _ _ oc.e, upd_same, (by rw [List.length_map]; exact big (by show _ + 1 ≤ _; omega)), fun p2 n2 => ?_⟩
        have oc6 : ∀ z o, H z = some o → _ = some o := fun z o e => same_new (o := .lst (((acc3 ++ wn ar.n ++ [(ar.ds.length : Int)]) ++ ar.ds.flatMap eD).map V.int ++ [.int (sys.length : Int)])) n2 z o (same_new n1 _ _ (oc5 _ _ e))
        refine ⟨fun σ H6 => ∃ p y7 y11, σ = [some (.ref a), some (.ref p), some (.int r.no), some (.ref tb), some (.str ar.n), some (.ref sa), some (.ref tc), y7, y8, y9, y10, y11, y12, y13, y14, y15] ∧ Oc H H6 p ((((acc3 ++ wn ar.n ++ [(ar.ds.length : Int)]) ++ ar.ds.flatMap eD) ++ [(ar.ts.length : Int)]) ++ ar.ts.flatMap eT), ?_, ?_⟩
        · refine ⟨_, rfl, sa, C, sdx, _, .ref sta, rfl, oc6 _ _ hsa, S.cl, S.na _ (by decide +kernel), rfl, sta, rfl, ⟨_, SqT.of (oc6 _ _ hsta)⟩, for_it (walk_tup (xs := sys)) (fun k σ H6 => ∃ p y7 y11, σ = [some (.ref a), some (.ref p), some (.int r.no), some (.ref tb), some (.str ar.n), some (.ref sa), some (.ref tc), y7, y8, y9, y10, y11, y12, y13, y14, y15] ∧ Oc H H6 p ((((acc3 ++ wn ar.n ++ [(ar.ds.length : Int)]) ++ ar.ds.flatMap eD) ++ [(ar.ts.length : Int)]) ++ (ar.ts.take k).flatMap eT)) ?_ ?_ ?_ ?_⟩
          · refine ⟨p2, _, _, rfl, oc6, ?_⟩
            rw [upd_same, hsts.1, List.take_zero, List.flatMap_nil, List.append_nil, List.map_append (l₂ := [(ar.ts.length : Int)])]
            rfl
          · rintro k σ H6 hk ⟨p, y7, y11, rfl, oc⟩
            exact SqT.of (oc.s _ _ hsta)
          · rintro k x σ H6 H7 hk ⟨p, y7, y11, rfl, oc⟩ ⟨rfl, hx⟩
            rw [hsts.1] at hk
            obtain ⟨b, rfl, hb⟩ := hsts.at hk hx
            have gt1 := ga.t _ (List.getElem_mem hk)
            have hle5 : ((((acc3 ++ wn ar.n ++ [(ar.ds.length : Int)]) ++ ar.ds.flatMap eD) ++ [(ar.ts.length : Int)]) ++ (ar.ts.take (k + 1)).flatMap eT).length ≤ 900000 := by
              have := fm_take eT ar.ts (k + 1)
              rw [List.length_append] at b4 ⊢
              omega
            rw [fm_succ eT hk, ← List.append_assoc] at hle5 ⊢
            generalize ar.ts[k] = t at hb gt1 hle5 ⊢
            generalize ((((acc3 ++ wn ar.n ++ [(ar.ds.length : Int)]) ++ ar.ds.flatMap eD) ++ [(ar.ts.length : Int)]) ++ (ar.ts.take k).flatMap eT) = ac at oc hle5 ⊢
            have hlen : ac.length + (wn t.n).length + 1 ≤ 900000 := by
              rw [List.length_append] at hle5
              unfold eT at hle5
              rw [List.length_append] at hle5
              have : [kix t.k].length = 1 := rfl
              omega
            obtain ⟨j, j1, j2, j3⟩ := kix_at gt1.k
            have gtn := gt1.n
            refine ⟨b, _, rfl, SqT.of (oc.s _ _ hb), rfl, _, _, rfl, _, _, rfl, rfl, ?_⟩
            refine ⟨_, rfl, _, rfl, t.n, rfl, by omega, fun H8 p1 s8 n1 e1 => ?_⟩
            refine ⟨p, p1, _, _, rfl, rfl, s8 _ _ oc.e, e1, (by rw [List.length_map, List.length_map]; exact big (by omega)), fun p2 n2 => ?_⟩
            refine ⟨(by show 3 ≤ sizeLine; decide), fun p3 n3 => ?_⟩
            have r23 : p2 ≠ p3 := ne_of_none upd_same n3
            refine ⟨.inl ⟨rfl, _, .inl (.inl upd_same)⟩, _, rfl, p3, _, .str t.k, j, .str t.k, rfl, rfl, .inl (.inl upd_same), rfl, rfl, ?_, by show (t.k == t.k) = true; exact beq_self_eq_true _, fun m z hm hz => ?_, (by show 1 ≤ sizeLine; decide), fun p4 n4 => ?_⟩
            · have := congrArg (Option.map V.str) j1
              rw [← List.getElem?_map] at this
              exact this
            · have e3 : (KS.map V.str)[m]? = some z := hz
              rw [List.getElem?_map] at e3
              cases e4 : KS[m]? with
              | none => rw [e4] at e3; cases e3
              | some y =>
                rw [e4] at e3
                obtain rfl := Option.some.inj e3
                show (y == t.k) = false
                rw [beq_eq_false_iff_ne]
                intro ey
                exact j2 m hm (by rw [e4, ey])
            have r24 : p2 ≠ p4 := ne_of_none (by rw [upd_ne r23, upd_same]) n4
            refine ⟨p2, p4, _, _, rfl, rfl, by rw [upd_ne r24, upd_ne r23, upd_same], upd_same, (by rw [List.length_append, List.length_map, List.length_map]; exact big (by show _ + 1 ≤ _; omega)), fun p5 n5 => ?_⟩
            refine ⟨p5, _, _, rfl, fun z o e => same_new n5 _ _ (same_new n4 _ _ (same_new n3 _ _ (same_new n2 _ _ (s8 _ _ (oc.s _ _ e))))), ?_⟩
            rw [upd_same]
            unfold eT
            rw [j3]
            simp only [List.map_append, List.append_assoc]
            rfl
          · rintro σ H6 ⟨p, y7, y11, rfl, oc⟩
            rw [hsts.1, List.take_length] at oc
            exact ⟨p, _, _, rfl, oc⟩
        rintro σ H6 ⟨p, y7, y11, rfl, oc⟩
        refine ⟨_, rfl, _, rfl, tc, cxs, rfl, .inr (SqT.of (oc.s _ _ htc)), _, rfl, fun p1 n1 => ?_⟩
        refine ⟨p, p1, _, _, rfl, rfl, same_new n1 _ _ oc.e, upd_same, (by rw [List.length_map]; exact big (by show _ + 4 ≤ _; omega)), fun p2 n2 => ?_⟩
        have oc7 : ∀ z o, H z = some o → _ = some o := fun z o e => same_new (o := .lst ((((((acc3 ++ wn ar.n ++ [(ar.ds.length : Int)]) ++ ar.ds.flatMap eD) ++ [(ar.ts.length : Int)]) ++ ar.ts.flatMap eT)).map V.int ++ (w4 (cxs.length : Int)).map V.int)) n2 z o (same_new n1 _ _ (oc.s _ _ e))
        refine ⟨_, rfl, tc, rfl, ⟨_, SqT.of (oc7 _ _ htc)⟩, for_it (walk_tup (xs := cxs)) (fun k σ H7 => ∃ p y12 y13 y14 y15, σ = [some (.ref a), some (.ref p), some (.int r.no), some (.ref tb), some (.str ar.n), some (.ref sa), some (.ref tc), y7, y8, y9, y10, y11, y12, y13, y14, y15] ∧ Oc H H7 p (((((acc3 ++ wn ar.n ++ [(ar.ds.length : Int)]) ++ ar.ds.flatMap eD) ++ [(ar.ts.length : Int)]) ++ ar.ts.flatMap eT ++ w4 (ar.cs.length : Int)) ++ (ar.cs.take k).flatMap eCk)) ?_ ?_ ?_ ?_⟩
        · refine ⟨p2, _, _, _, _, rfl, oc7, ?_⟩
          rw [upd_same, hcs.1, List.take_zero, List.flatMap_nil, List.append_nil, List.map_append (l₂ := w4 (ar.cs.length : Int))]
        · rintro k σ H7 hk ⟨p, y12, y13, y14, y15, rfl, oc⟩
          exact SqT.of (oc.s _ _ htc)
        · rintro k x σ H7 H8 hk ⟨p, y12, y13, y14, y15, rfl, oc⟩ ⟨rfl, hx⟩
          rw [hcs.1] at hk
          obtain ⟨b, u2, rfl, hb, hu2⟩ := hcs.at hk hx
          have hle6 : (((((acc3 ++ wn ar.n ++ [(ar.ds.length : Int)]) ++ ar.ds.flatMap eD) ++ [(ar.ts.length : Int)]) ++ ar.ts.flatMap eT ++ w4 (ar.cs.length : Int)) ++ (ar.cs.take (k + 1)).flatMap eCk).length ≤ 900000 := by
            have := fm_take eCk ar.cs (k + 1)
            rw [List.length_append] at hle3 ⊢
            omega
          rw [fm_succ eCk hk, ← List.append_assoc] at hle6 ⊢
          generalize ar.cs[k] = ck at hb hu2 hle6 ⊢
          generalize (((((acc3 ++ wn ar.n ++ [(ar.ds.length : Int)]) ++ ar.ds.flatMap eD) ++ [(ar.ts.length : Int)]) ++ ar.ts.flatMap eT ++ w4 (ar.cs.length : Int)) ++ (ar.cs.take k).flatMap eCk) = ac at oc hle6 ⊢
          have hek : ac ++ eCk ck = (ac ++ ck.c.flatMap w4) ++ w4 ck.o ++ w4 ck.l := by
            unfold eCk
            rw [List.flatMap_append]
            simp only [List.append_assoc]
            rfl
          rw [hek] at hle6 ⊢
          have hlen : (ac ++ ck.c.flatMap w4).length + 8 ≤ 900000 := by
            rw [List.length_append, List.length_append] at hle6
            have : (w4 ck.o).length = 4 := rfl
            have : (w4 ck.l).length = 4 := rfl
            omega
          refine ⟨b, _, rfl, SqT.of (oc.s _ _ hb), rfl, _, _, rfl, _, _, rfl, _, _, rfl, rfl, ?_⟩
          refine ⟨fun σ H9 => ∃ p y15, σ = [some (.ref a), some (.ref p), some (.int r.no), some (.ref tb), some (.str ar.n), some (.ref sa), some (.ref tc), y7, y8, y9, y10, y11, some (.ref u2), some (.int ck.o), some (.int ck.l), y15] ∧ Oc H H9 p (ac ++ ck.c.flatMap w4), ?_, ?_⟩
          · refine ⟨_, rfl, u2, rfl, ⟨_, SqT.of (oc.s _ _ hu2)⟩, for_it (walk_tup (xs := ck.c.map V.int)) (fun m σ H9 => ∃ p y15, σ = [some (.ref a), some (.ref p), some (.int r.no), some (.ref tb), some (.str ar.n), some (.ref sa), some (.ref tc), y7, y8, y9, y10, y11, some (.ref u2), some (.int ck.o), some (.int ck.l), y15] ∧ Oc H H9 p (ac ++ (ck.c.take m).flatMap w4)) ?_ ?_ ?_ ?_⟩
            · refine ⟨p, _, rfl, ?_⟩
              rw [List.take_zero, List.flatMap_nil, List.append_nil]
              exact oc
            · rintro m σ H9 hm ⟨p, y15, rfl, oc⟩
              exact SqT.of (oc.s _ _ hu2)
            · rintro m x σ H9 H10 hm ⟨p, y15, rfl, oc⟩ ⟨rfl, hx⟩
              rw [List.length_map] at hm
              rw [List.getElem?_map, List.getElem?_eq_getElem hm] at hx
              obtain rfl := Option.some.inj hx
              have hl9 : (ac ++ (ck.c.take (m + 1)).flatMap w4).length ≤ 900000 := by
                have := fm_take w4 ck.c (m + 1)
                rw [List.length_append] at hlen ⊢
                omega
              rw [fm_succ w4 hm, ← List.append_assoc] at hl9 ⊢
              refine ⟨_, rfl, _, rfl, _, rfl, fun p1 n1 => ?_⟩
              refine ⟨p, p1, _, _, rfl, rfl, same_new n1 _ _ oc.e, upd_same, (by rw [List.length_map, List.length_map, ← List.length_append]; exact big (by omega)), fun p2 n2 => ?_⟩
              exact ⟨p2, _, rfl, fun z o e => same_new n2 _ _ (same_new n1 _ _ (oc.s _ _ e)), by rw [upd_same]; simp only [List.map_append]⟩
            · rintro σ H9 ⟨p, y15, rfl, oc⟩
              rw [List.length_map, List.take_length] at oc
              exact ⟨p, _, rfl, oc⟩
          rintro σ H9 ⟨p, y15, rfl, oc⟩
          refine ⟨_, rfl, _, rfl, _, rfl, fun p1 n1 => ?_⟩
          refine ⟨p, p1, _, _, rfl, rfl, same_new n1 _ _ oc.e, upd_same, (by rw [List.length_map]; exact big (by show _ + 4 ≤ _; omega)), fun p2 n2 => ?_⟩
          refine ⟨_, rfl, _, rfl, fun p3 n3 => ?_⟩
          have r23 : p2 ≠ p3 := ne_of_none upd_same n3
          refine ⟨p2, p3, _, _, rfl, rfl, by rw [upd_ne r23, upd_same], upd_same, (by rw [List.length_append, List.length_map]; exact big (by show _ + 4 + 4 ≤ _; omega)), fun p4 n4 => ?_⟩
          exact ⟨p4, _, _, _, _, rfl, fun z o e => same_new n4 _ _ (same_new n3 _ _ (same_new n2 _ _ (same_new n1 _ _ (oc.s _ _ e)))), by rw [upd_same]; simp only [List.map_append]⟩
        · rintro σ H7 ⟨p, y12, y13, y14, y15, rfl, oc⟩
          rw [hcs.1, List.take_length] at oc
          exact ⟨p, _, _, _, _, _, _, _, _, _, _, _, _, rfl, oc⟩
      · rintro σ H2 ⟨p, y4, y5, y6, y7, y8, y9, y10, y11, y12, y13, y14, y15, rfl, oc⟩
        rw [hzs.1, List.take_length] at oc
        exact ⟨p, _, _, _, _, _, _, _, _, _, _, _, _, _, _, rfl, oc⟩
    · rintro σ H2 ⟨p, y2, y3, y4, y5, y6, y7, y8, y9, y10, y11, y12, y13, y14, y15, rfl, oc⟩
      rw [hall.1, List.take_length] at oc
      exact ⟨_, rfl, q H2 p oc⟩
end
end K2

namespace K2
open PySem L2
def ORf : List Str := ["octets", "at"]
structure RdAt (CO : Addr) (H : Hp) (r : Addr) (lo : Addr) (os : List Int) (at_ : Nat) : Prop where
  i : ∃ dx, H r = some (.ins CO dx [("octets", .ref lo), ("at", .int (at_ : Int))])
  o : H lo = some (.lst (os.map V.int))
  le : at_ ≤ os.length
/-- what else stood stays -/
def Ex (H H' : Hp) (r : Addr) : Prop := ∀ a o, H a = some o → a ≠ r → H' a = some o
theorem Ex.trans {H H1 H2 : Hp} {r : Addr} (a : Ex H H1 r) (b : Ex H1 H2 r) : Ex H H2 r := fun x o e n => b x o (a x o e n) n
theorem Ex.same {H H1 H2 : Hp} {r : Addr} (a : Ex H H1 r) (b : Same H1 H2) : Ex H H2 r := fun x o e n => b x o (a x o e n)
theorem Same.ex {H H1 : Hp} {r : Addr} (b : Same H H1) : Ex H H1 r := fun x o e _ => b x o e
theorem RdAt.same {CO : Addr} {H H1 : Hp} {r lo : Addr} {os : List Int} {n : Nat} (h : RdAt CO H r lo os n) (s : Same H H1) : RdAt CO H1 r lo os n := by
  obtain ⟨dx, e⟩ := h.i
  exact ⟨⟨dx, s _ _ e⟩, s _ _ h.o, h.le⟩
theorem drop_add' {os xs rest : List Int} {n : Nat} (h : os.drop n = xs ++ rest) : os.drop (n + xs.length) = rest := by
  rw [← List.drop_drop, h, List.drop_left]
section
variable {P : Program} {w : World} {K : PySem.W.Frag} {mg : Str → Option Value} {base : Heap}
def spORI (K : PySem.W.Frag) (CO : Addr) : Sp := fun vs H Q _ => ∃ (x dx l : Addr) (os : List Int), vs = [.ref x, .ref l] ∧ H x = some (.ins CO dx []) ∧ SqL K H l (os.map V.int) ∧
  ∀ H' lo, Ex H H' x → H lo = none → RdAt CO H' x lo os 0 → Q .non H'
theorem scORI : FnScope ["self", "octets"] ["self", "octets"] (defScope sOctetReaderInit) := ⟨rfl, rfl, rfl, by decide +kernel, rfl, by decide +kernel, by decide +kernel⟩
theorem ok_orI {f CO : Addr} {fd : FuncData} (F : Fun K "__init__" "OctetReader.__init__" sOctetReaderInit f fd) (N : Nm mg) (T : KC K CO f ORf) : FnOk P w K mg base CX0 1 f fd ["self", "octets"] (spORI K CO) := by
  refine F.ok scORI (fun vs H Q E h => ?_) (fun cdv A outer s H vs Q E hr h => ?_)
  · obtain ⟨x, dx, l, os, rfl, _⟩ := h
    rfl
  · obtain ⟨x, dx, l, os, rfl, hx, hl, q⟩ := h
    refine ⟨_, pss_cons (ps_fld (pv 0) (pe_callTy call_list_of (by rfl) N.list (by decide +kernel) (pa_cons (pv 1) pa_nil)) rfl) (pss_one (ps_fld (pv 0) pe_int rfl)), ?_⟩
    refine ⟨_, rfl, l, _, rfl, .inl hl, fun r nr => ?_⟩
    have nxr : x ≠ r := ne_of_none hx nr
    refine ⟨_, rfl, x, CO, dx, [], rfl, by rw [upd_ne nxr]; exact hx, T.cl, T.na _ (by decide +kernel), (by decide), ?_⟩
    refine ⟨_, rfl, x, CO, dx, _, rfl, upd_same, T.cl, T.na _ (by decide +kernel), (by show 1 < 1000; decide), q _ r (fun c o h n => ?_) nr ⟨⟨dx, upd_same⟩, ?_, Nat.zero_le _⟩⟩
    · rw [upd_ne n, upd_ne n, upd_ne (ne_of_none h nr)]
      exact h
    · rw [upd_ne nxr.symm, upd_ne nxr.symm, upd_same]
def spEnd (CO : Addr) : Sp := fun vs H Q _ => ∃ (r lo : Addr) (os : List Int), vs = [.ref r] ∧ RdAt CO H r lo os os.length ∧ Q (.bl true) H
theorem scEnd : FnScope ["self"] ["self"] (defScope sOctetReaderIsAtEnd) := ⟨rfl, rfl, rfl, by decide +kernel, rfl, by decide +kernel, by decide +kernel⟩
theorem ok_end {f fI CO : Addr} {fd : FuncData} (F : Fun K "is_at_end" "OctetReader.is_at_end" sOctetReaderIsAtEnd f fd) (N : Nm mg) (T : KC K CO fI ORf) : FnOk P w K mg base CX0 1 f fd ["self"] (spEnd CO) := by
  refine F.ok scEnd (fun vs H Q E h => ?_) (fun cdv A outer s H vs Q E hr h => ?_)
  · obtain ⟨r, lo, os, rfl, _⟩ := h
    rfl
  · obtain ⟨r, lo, os, rfl, hr', q⟩ := h
    refine ⟨_, pss_one (ps_ret (pe_cmpR op_eq (pe_fld (pv 0) rfl) (pe_callB call_len_seq (by rfl) N.len PySem.boot_len (pa_cons (pe_fld (pv 0) rfl) pa_nil)) (nomark _))), ?_⟩
    obtain ⟨dx, e⟩ := hr'.i
    refine ⟨_, rfl, r, CO, dx, _, _, rfl, e, T.cl, T.na _ (by decide +kernel), rfl, _, rfl, r, CO, dx, _, .ref lo, rfl, e, T.cl, T.na _ (by decide +kernel), rfl, lo, _, rfl, .inl (.inl (.inl hr'.o)), rfl, ?_⟩
    rw [List.length_map, decide_eq_true rfl]
    exact q
def spNO (CO : Addr) : Sp := fun vs H Q _ => ∃ (r lo : Addr) (os xs rest : List Int) (n : Nat), vs = [.ref r, .int (xs.length : Int)] ∧ RdAt CO H r lo os n ∧ os.drop n = xs ++ rest ∧
  ∀ H' q, Ex H H' r → RdAt CO H' r lo os (n + xs.length) → H q = none → H' q = some (.lst (xs.map V.int)) → Q (.ref q) H'
theorem scNO : FnScope ["self", "count", "taken"] ["self", "count"] (defScope sOctetReaderNextOctets) := ⟨rfl, rfl, rfl, by decide +kernel, rfl, by decide +kernel, by decide +kernel⟩
theorem cutab {xs : List V} (a b : Nat) : cutV xs (some (a : Int)) (some ((a : Int) + (b : Int))) = (xs.drop a).take b := by
  unfold cutV
  rw [show (a : Int) + (b : Int) = ((a + b : Nat) : Int) from by omega, show HT.sIx xs.length 0 (some (a : Int)) = min a xs.length from HT.sIx_nat _ _ a, show HT.sIx xs.length xs.length (some ((a + b : Nat) : Int)) = min (a + b) xs.length from HT.sIx_nat _ _ (a + b)]
  by_cases h : a ≤ xs.length
  · rw [Nat.min_eq_left h]
    by_cases g : a + b ≤ xs.length
    · rw [Nat.min_eq_left g, Nat.add_sub_cancel_left]
    · rw [Nat.min_eq_right (by omega), List.take_of_length_le (by rw [List.length_drop]; omega), List.take_of_length_le (by rw [List.length_drop]; omega)]
  · rw [Nat.min_eq_right (by omega), Nat.min_eq_right (by omega), List.drop_of_length_le (Nat.le_refl _), List.drop_of_length_le (by omega)]
    simp
theorem ok_no {f fI CO : Addr} {fd : FuncData} (F : Fun K "next_octets" "OctetReader.next_octets" sOctetReaderNextOctets f fd) (N : Nm mg) (T : KC K CO fI ORf) : FnOk P w K mg base CX0 1 f fd ["self", "count"] (spNO CO) := by
  refine F.ok scNO (fun vs H Q E h => ?_) (fun cdv A outer s H vs Q E hr h => ?_)
  · obtain ⟨r, lo, os, xs, rest, n, rfl, _⟩ := h
    rfl
  · obtain ⟨r, lo, os, xs, rest, n, rfl, hr', hd, q⟩ := h
    refine ⟨_, pss_cons (ps_if (pt_cmpR op_gt (pv 1) (pe_op op_sub (pe_callB call_len_seq (by rfl) N.len PySem.boot_len (pa_cons (pe_fld (pv 0) rfl) pa_nil)) (pe_fld (pv 0) rfl)) (nomark _)) pss_dead pss_nil)
      (pss_cons (ps_set (i := 2) scNO.nd rfl (.inl rfl) (pe_slice sl_list (pe_fld (pv 0) rfl) (po_some (pe_fld (pv 0) rfl)) (po_some (pe_op op_add (pe_fld (pv 0) rfl) (pv 1)))))
      (pss_cons (ps_fldaug (pv 0) (pv 1) in_add)
      (pss_one (ps_ret (pv 2))))), ?_⟩
    obtain ⟨dx, e⟩ := hr'.i
    have fa : ∀ f, f ∈ ORf → NoAttr K CO f := T.na
    have hlen : n + xs.length ≤ os.length := by
      have := congrArg List.length hd
      rw [List.length_drop, List.length_append] at this
      have := hr'.le
      omega
    refine ⟨_, rfl, _, rfl, r, CO, dx, _, .ref lo, rfl, e, T.cl, T.na _ (by decide +kernel), rfl, lo, _, rfl, .inl (.inl (.inl hr'.o)), _, rfl, r, CO, dx, _, .int (n : Int), rfl, e, T.cl, T.na _ (by decide +kernel), rfl, _, _, rfl, rfl, _, _, rfl, rfl, _, rfl, ?_⟩
    refine iteBF (decide_eq_false (by rw [List.length_map]; omega)) ?_
    refine ⟨_, rfl, r, CO, dx, _, .ref lo, rfl, e, T.cl, T.na _ (by decide +kernel), rfl, _, rfl, r, CO, dx, _, .int (n : Int), rfl, e, T.cl, T.na _ (by decide +kernel), rfl, _, rfl, _, rfl, r, CO, dx, _, .int (n : Int), rfl, e, T.cl, T.na _ (by decide +kernel), rfl, _, rfl, _, _, rfl, rfl, _, rfl, lo, _, rfl, .inl (.inl hr'.o), fun p np => ?_⟩
    have nrp : r ≠ p := ne_of_none e np
    refine ⟨_, rfl, r, CO, dx, _, .int (n : Int), rfl, same_new np _ _ e, T.cl, T.na _ (by decide +kernel), rfl, _, rfl, _, _, rfl, rfl, dx, _, same_new np _ _ e, (by show 2 < 1000; decide), ?_⟩
    refine ⟨_, rfl, q _ p (fun a o h m => ?_) ⟨⟨dx, ?_⟩, ?_, hlen⟩ np ?_⟩
    · rw [upd_ne m]
      exact same_new np _ _ h
    · rw [upd_same, show ((n + xs.length : Nat) : Int) = (n : Int) + (xs.length : Int) from by omega]
      rfl
    · rw [upd_ne (ne_of hr'.o e (by intro z; cases z))]
      exact same_new np _ _ hr'.o
    · rw [upd_ne nrp.symm, upd_same, cutab, ← List.map_drop, ← List.map_take, hd, List.take_left]
def spOf (K : PySem.W.Frag) (CO : Addr) : Sp := fun vs H Q _ => ∃ (r lo t : Addr) (os rest ls : List Int) (o : Int) (n : Nat), vs = [.ref r, .ref t] ∧ RdAt CO H r lo os n ∧ os.drop n = o :: rest ∧ (∀ H', Ex H H' r → SqT K H' t (ls.map V.int)) ∧ o ∈ ls ∧
  ∀ H', Ex H H' r → RdAt CO H' r lo os (n + 1) → Q (.int o) H'
theorem scOf : FnScope ["self", "allowed", "first", "octet"] ["self", "allowed"] (defScope sOctetReaderNextOctetOf) := ⟨rfl, rfl, rfl, by decide +kernel, rfl, by decide +kernel, by decide +kernel⟩
theorem flat_ints (ls : List Int) : (ls.map V.int).all flatV = true := by
  rw [List.all_eq_true]
  intro x hx
  obtain ⟨i, _, rfl⟩ := List.mem_map.mp hx
  rfl
theorem inV_int {o : Int} {ls : List Int} (h : o ∈ ls) : inV (.int o) (ls.map V.int) = true := by
  unfold inV
  rw [List.any_eq_true]
  exact ⟨.int o, List.mem_map.mpr ⟨o, h, rfl⟩, by show (o == o) = true; exact beq_self_eq_true o⟩
theorem ok_of {f fI fN CO : Addr} {fd fdN : FuncData} (F : Fun K "next_octet_of" "OctetReader.next_octet_of" sOctetReaderNextOctetOf f fd) (T : KC K CO fI ORf) (GN : FnOk P w K mg base CX0 1 fN fdN ["self", "count"] (spNO CO)) (bN : Binds K fdN ["self", "count"] []) (mN : Meth K CO "next_octets" fN) : FnOk P w K mg base CX0 2 f fd ["self", "allowed"] (spOf K CO) := by
  have GN' : FnOk P w K mg base CX0 1 fN fdN ["self", "count"] (spNO CO) := GN
  refine F.ok scOf (fun vs H Q E h => ?_) (fun cdv A outer s H vs Q E hr h => ?_)
  · obtain ⟨r, lo, t, os, rest, ls, o, n, rfl, _⟩ := h
    rfl
  · obtain ⟨r, lo, t, os, rest, ls, o, n, rfl, hr', hd, ht, ho, q⟩ := h
    refine ⟨_, pss_cons (ps_set (i := 2) scOf.nd rfl (.inl rfl) (pe_fld (pv 0) rfl))
      (pss_cons (ps_set (i := 3) scOf.nd rfl (.inl rfl) (pe_ix ix_list (pe_meth (pv 0) T.cl mN GN' hr bN .nil pass0 (pa_cons pe_int pa_nil)) pe_int (fun _ _ => rfl)))
      (pss_cons (ps_if (pt_cmpR op_notIn_seq (pv 3) (pv 1) (by rfl)) pss_dead pss_nil)
      (pss_one (ps_ret (pv 3))))), ?_⟩
    obtain ⟨dx, e⟩ := hr'.i
    refine ⟨_, rfl, r, CO, dx, _, .int (n : Int), rfl, e, T.cl, T.na _ (by decide +kernel), rfl, ?_⟩
    refine ⟨_, rfl, r, dx, _, rfl, e, rfl, ?_⟩
    refine ⟨r, lo, os, [o], rest, n, rfl, hr', hd, fun H' p ex rd np hp => ?_⟩
    refine ⟨p, _, 0, .int o, rfl, rfl, .inl (.inl hp), rfl, ?_⟩
    refine ⟨_, rfl, _, rfl, t, _, rfl, .inr (ht _ ex), rfl, flat_ints _, _, rfl, ?_⟩
    rw [inV_int ho]
    exact iteF ⟨_, rfl, q _ ex rd⟩
theorem four_of {n : Int} (h0 : 0 ≤ n) (h1 : n < 4294967296) : ((((0 : Int) * 256 + n / 16777216 % 256) * 256 + n / 65536 % 256) * 256 + n / 256 % 256) * 256 + n % 256 = n := by omega
def fo (os : List Int) : Int := os.foldl (fun a o => a * 256 + o) 0
theorem fo_w4 {n : Int} (h0 : 0 ≤ n) (h1 : n < 4294967296) : fo (w4 n) = n := four_of h0 h1
def spN4 (CO : Addr) : Sp := fun vs H Q _ => ∃ (r lo : Addr) (os rest : List Int) (m : Int) (n : Nat), vs = [.ref r] ∧ RdAt CO H r lo os n ∧ os.drop n = w4 m ++ rest ∧ 0 ≤ m ∧ m < 4294967296 ∧ ∀ H', Ex H H' r → RdAt CO H' r lo os (n + 4) → Q (.int m) H'
theorem scN4 : FnScope ["self", "number", "octet"] ["self"] (defScope sOctetReaderNextFour) := ⟨rfl, rfl, rfl, by decide +kernel, rfl, by decide +kernel, by decide +kernel⟩
theorem ok_n4 {f fI fN CO : Addr} {fd fdN : FuncData} (F : Fun K "next_four" "OctetReader.next_four" sOctetReaderNextFour f fd) (T : KC K CO fI ORf) (GN : FnOk P w K mg base CX0 1 fN fdN ["self", "count"] (spNO CO)) (bN : Binds K fdN ["self", "count"] []) (mN : Meth K CO "next_octets" fN) : FnOk P w K mg base CX0 2 f fd ["self"] (spN4 CO) := by
  refine F.ok scN4 (fun vs H Q E h => ?_) (fun cdv A outer s H vs Q E hr h => ?_)
  · obtain ⟨r, lo, os, rest, m, n, rfl, _⟩ := h
    rfl
  · obtain ⟨r, lo, os, rest, m, n, rfl, hr', hd, m0, m1, q⟩ := h
    refine ⟨_, pss_cons (ps_set (i := 1) scN4.nd rfl (.inl rfl) pe_int)
      (pss_cons (ps_for PassesOwn.never rfl (pi_list (pe_meth (pv 0) T.cl mN GN hr bN .nil pass0 (pa_cons pe_int pa_nil))) (pg_name (i := 2) scN4.nd rfl (.inl rfl))
        (pss_one (ps_set (i := 1) scN4.nd rfl (.inl rfl) (pe_op op_add (pe_op op_mul (pv 1) pe_int) (pv 2)))))
      (pss_one (ps_ret (pv 1)))), ?_⟩
    obtain ⟨dx, e⟩ := hr'.i
    refine ⟨_, rfl, r, dx, _, rfl, e, rfl, ?_⟩
    refine ⟨r, lo, os, w4 m, rest, n, rfl, hr', hd, fun H' p ex rd np hp => ?_⟩
    refine ⟨p, rfl, ⟨_, .inl (.inl hp)⟩, for_it (walk_list (xs := (w4 m).map V.int)) (fun i σ H2 => ∃ y2, σ = [some (.ref r), some (.int (fo ((w4 m).take i))), y2] ∧ H2 = H') ?_ ?_ ?_ ?_⟩
    · exact ⟨none, rfl, rfl⟩
    · rintro i σ H2 hi ⟨y2, rfl, rfl⟩
      exact .inl (.inl hp)
    · rintro i x σ H2 H3 hi ⟨y2, rfl, rfl⟩ ⟨rfl, hx⟩
      rw [List.length_map] at hi
      rw [List.getElem?_map, List.getElem?_eq_getElem hi] at hx
      obtain rfl := Option.some.inj hx
      have ef : fo ((w4 m).take (i + 1)) = fo ((w4 m).take i) * 256 + (w4 m)[i] := by
        unfold fo
        rw [List.take_add_one, List.getElem?_eq_getElem hi, List.foldl_append]
        rfl
      rw [ef]
      exact ⟨_, rfl, _, _, rfl, rfl, .inr ⟨by decide, by decide⟩, _, rfl, _, _, rfl, rfl, _, rfl, rfl⟩
    · rintro σ H2 ⟨y2, rfl, rfl⟩
      rw [List.length_map, List.take_length, fo_w4 m0 m1]
      exact ⟨_, rfl, q _ ex rd⟩
def spN4i (CO : Addr) : Sp := fun vs H Q _ => ∃ (r lo : Addr) (os rest : List Int) (m a b : Int) (n : Nat), vs = [.ref r, .int a, .int b] ∧ RdAt CO H r lo os n ∧ os.drop n = w4 m ++ rest ∧ 0 ≤ m ∧ m < 4294967296 ∧ a ≤ m ∧ m ≤ b ∧ ∀ H', Ex H H' r → RdAt CO H' r lo os (n + 4) → Q (.int m) H'
theorem scN4i : FnScope ["self", "least", "greatest", "first", "number"] ["self", "least", "greatest"] (defScope sOctetReaderNextFourIn) := ⟨rfl, rfl, rfl, by decide +kernel, rfl, by decide +kernel, by decide +kernel⟩
theorem ok_n4i {f fI fN CO : Addr} {fd fdN : FuncData} (F : Fun K "next_four_in" "OctetReader.next_four_in" sOctetReaderNextFourIn f fd) (T : KC K CO fI ORf) (GN : FnOk P w K mg base CX0 2 fN fdN ["self"] (spN4 CO)) (bN : Binds K fdN ["self"] []) (mN : Meth K CO "next_four" fN) : FnOk P w K mg base CX0 3 f fd ["self", "least", "greatest"] (spN4i CO) := by
  refine F.ok scN4i (fun vs H Q E h => ?_) (fun cdv A outer s H vs Q E hr h => ?_)
  · obtain ⟨r, lo, os, rest, m, a, b, n, rfl, _⟩ := h
    rfl
  · obtain ⟨r, lo, os, rest, m, a, b, n, rfl, hr', hd, m0, m1, ha, hb, q⟩ := h
    refine ⟨_, pss_cons (ps_set (i := 3) scN4i.nd rfl (.inl rfl) (pe_fld (pv 0) rfl))
      (pss_cons (ps_set (i := 4) scN4i.nd rfl (.inl rfl) (pe_meth0 (pv 0) T.cl mN GN hr bN .nil pass0))
      (pss_cons (ps_if (pt_not (pt_chain op_le op_le (pv 1) (pv 4) (pv 2))) pss_dead pss_nil)
      (pss_one (ps_ret (pv 4))))), ?_⟩
    obtain ⟨dx, e⟩ := hr'.i
    refine ⟨_, rfl, r, CO, dx, _, .int (n : Int), rfl, e, T.cl, T.na _ (by decide +kernel), rfl, ?_⟩
    refine ⟨_, rfl, r, dx, _, rfl, e, rfl, r, lo, os, rest, m, n, rfl, hr', hd, m0, m1, fun H' ex rd => ?_⟩
    refine ⟨_, rfl, _, rfl, _, _, rfl, rfl, _, rfl, iteB (decide_eq_true ha) ⟨_, rfl, _, _, rfl, rfl, _, rfl, ?_⟩⟩
    rw [decide_eq_true hb]
    exact iteF ⟨_, rfl, q _ ex rd⟩
end
end K2

namespace K2
open PySem L2
def NMS : List Str := ["x", "y", "v", "w", "a", "b2"]
def NCH : Str := "ABCDEFGHIJKLMNOPQRSTUVWXYZabcdefghijklmnopqrstuvwxyz0123456789_"
def DIG : Str := "0123456789"
def CHS2 : Str := " !\"#$\n&'()*+,-./0123456789:;<=>?@ABCDEFGHIJKLMNOPQRSTUVWXYZ[\\]^_`abcdefghijklmnopqrstuvwxyz{|}~"
def hd0 (z : Str) : Nat := z.cps.toList.getD 0 0
def sg (c : Nat) : Str := ⟨#[c]⟩
structure Ct4 (mg : Str → Option Value) : Prop where
  lf : ∃ v, mg "LINE_FEED" = some v ∧ RelV (.int 10) v
  sp : ∃ v, mg "SPACE" = some v ∧ RelV (.int 32) v
  pc : ∃ v, mg "PERCENT_SIGN" = some v ∧ RelV (.int 37) v
  ti : ∃ v, mg "TILDE" = some v ∧ RelV (.int 126) v
  ch : ∃ v, mg "CHARACTERS" = some v ∧ RelV (.str CHS2) v
  nc : ∃ v, mg "NAME_CHARACTERS" = some v ∧ RelV (.str NCH) v
  dg : ∃ v, mg "DIGITS" = some v ∧ RelV (.str DIG) v
  lg : ∃ v, mg "LONGEST_NAME" = some v ∧ RelV (.int 30) v
theorem nm_len : ∀ z ∈ NMS, 1 ≤ z.length ∧ z.length ≤ 2 := by decide +kernel
theorem nm_strip : ∀ z ∈ NMS, Txt.stripChars z NCH = ("" : Str) := by decide +kernel
theorem nm_hd : ∀ z ∈ NMS, z.cps.toList[0]? = some (hd0 z) ∧ ¬ hd0 z ∈ DIG.cps.toList := by decide +kernel
theorem nm_codes : ∀ z ∈ NMS, ∀ c ∈ z.cps.toList, 48 ≤ c ∧ c ≤ 122 := by decide +kernel
theorem ch_tab : ∀ c, c < 123 → 48 ≤ c → CHS2.cps.toList[c - 32]? = some c := by decide +kernel
theorem nm_sum : ∀ z ∈ NMS, (List.map (fun x => x.length) (List.map sg z.cps.toList)).sum + (List.map sg z.cps.toList).length * ("" : Str).length ≤ 2 := by decide +kernel
theorem nm_join : ∀ z ∈ NMS, Txt.join ("" : Str) (z.cps.toList.map sg) = z := by decide +kernel
theorem str_eq' (a b : Str) : decide (V.str a = V.str b) = decide (a = b) := str_eq a b
section
variable {P : Program} {w : World} {K : PySem.W.Frag} {mg : Str → Option Value} {base : Heap}
def spCode : Sp := fun vs H Q _ => ∃ c : Nat, vs = [.int (c : Int)] ∧ 48 ≤ c ∧ c ≤ 122 ∧ Q (.bl true) H
theorem scCode : FnScope ["octet"] ["octet"] (defScope sIsCode) := ⟨rfl, rfl, rfl, by decide +kernel, rfl, by decide +kernel, by decide +kernel⟩
theorem ok_code {f : Addr} {fd : FuncData} (F : Fun K "is_code" "is_code" sIsCode f fd) (N : Ct4 mg) : FnOk P w K mg base CX0 1 f fd ["octet"] spCode := by
  refine F.ok scCode (fun vs H Q E h => ?_) (fun cdv A outer s H vs Q E hr h => ?_)
  · obtain ⟨n, rfl, _⟩ := h
    rfl
  · obtain ⟨n, rfl, h0, h1, q⟩ := h
    obtain ⟨u1, m1, r1⟩ := N.lf
    obtain ⟨u2, m2, r2⟩ := N.sp
    obtain ⟨u3, m3, r3⟩ := N.pc
    obtain ⟨u4, m4, r4⟩ := N.ti
    refine ⟨_, pss_one (ps_ret (pe_or (pe_cmpR op_eq (pv 0) (pe_glob (by rfl) m1 r1) (nomark _)) (pe_one (pe_and (pe_chain op_le op_le (pe_glob (by rfl) m2 r2) (pv 0) (pe_glob (by rfl) m4 r4)) (pe_one (pe_cmpR op_ne (pv 0) (pe_glob (by rfl) m3 r3) (nomark _))))))), ?_⟩
    refine ⟨_, rfl, rfl, _, rfl, iteBF (decide_eq_false fun z => by have := V.int.inj z; omega) ⟨_, rfl, 32, _, rfl, rfl, _, rfl, iteB (decide_eq_true (by omega)) ⟨_, 126, rfl, rfl, _, rfl, iteB (decide_eq_true (by omega)) ⟨_, rfl, rfl, ?_⟩⟩⟩⟩
    rw [decide_eq_false fun z => by have := V.int.inj z; omega]
    exact q
def spChar : Sp := fun vs H Q _ => ∃ c : Nat, vs = [.int (c : Int)] ∧ 48 ≤ c ∧ c ≤ 122 ∧ Q (.str (sg c)) H
theorem scChar : FnScope ["code"] ["code"] (defScope sCharacterOf) := ⟨rfl, rfl, rfl, by decide +kernel, rfl, by decide +kernel, by decide +kernel⟩
theorem ok_char {f : Addr} {fd : FuncData} (F : Fun K "character_of" "character_of" sCharacterOf f fd) (N : Ct4 mg) : FnOk P w K mg base CX0 1 f fd ["code"] spChar := by
  refine F.ok scChar (fun vs H Q E h => ?_) (fun cdv A outer s H vs Q E hr h => ?_)
  · obtain ⟨c, rfl, _⟩ := h
    rfl
  · obtain ⟨c, rfl, h0, h1, q⟩ := h
    obtain ⟨u1, m1, r1⟩ := N.lf
    obtain ⟨u2, m2, r2⟩ := N.sp
    obtain ⟨u3, m3, r3⟩ := N.ch
    refine ⟨_, pss_cons (ps_if (pt_cmpR op_eq (pv 0) (pe_glob (by rfl) m1 r1) (nomark _)) (pss_one (ps_ret pe_str)) pss_nil)
      (pss_one (ps_ret (pe_ix ix_str (pe_glob (by rfl) m3 r3) (pe_op op_sub (pv 0) (pe_glob (by rfl) m2 r2)) (fun _ _ => rfl)))), ?_⟩
    refine ⟨_, rfl, rfl, _, rfl, iteBF (decide_eq_false fun z => by have := V.int.inj z; omega) ?_⟩
    refine ⟨_, rfl, _, _, rfl, rfl, CHS2, _, c, rfl, rfl, (by decide +kernel), ?_, q⟩
    have : (c : Int) - 32 = ((c - 32 : Nat) : Int) := by omega
    show atI CHS2.cps.toList ((c : Int) - 32) = some c
    rw [this]
    exact atI_nat (ch_tab c (by omega) h0)
def spDec : Sp := fun vs H Q _ => ∃ (a : Addr) (z : Str), vs = [.ref a] ∧ H a = some (.lst ((nmo z).map V.int)) ∧ z ∈ NMS ∧ ∀ H', Same H H' → Q (.str z) H'
theorem scDec : FnScope ["octets", "index", "octet"] ["octets"] (defScope sDecodeText) := ⟨rfl, rfl, rfl, by decide +kernel, rfl, by decide +kernel, by decide +kernel⟩
theorem nmo_at {z : Str} {i : Nat} {x : V} (h : ((nmo z).map V.int)[i]? = some x) : ∃ c : Nat, z.cps.toList[i]? = some c ∧ x = .int (c : Int) := by
  unfold nmo at h
  rw [List.getElem?_map, List.getElem?_map] at h
  cases e : z.cps.toList[i]? with
  | none => rw [e] at h; cases h
  | some c =>
    rw [e] at h
    exact ⟨c, rfl, (Option.some.inj h).symm⟩
theorem ok_dec {f fC fH : Addr} {fd fdC fdH : FuncData} (F : Fun K "decode_text" "decode_text" sDecodeText f fd) (M : Nm mg) (N : Ct4 mg) (FC : Fun K "is_code" "is_code" sIsCode fC fdC) (bC : Binds K fdC ["octet"] []) (gC : mg "is_code" = some (.ref fC))
    (FH : Fun K "character_of" "character_of" sCharacterOf fH fdH) (bH : Binds K fdH ["code"] []) (gH : mg "character_of" = some (.ref fH)) : FnOk P w K mg base CX0 2 f fd ["octets"] spDec := by
  have GC : FnOk P w K mg base CX0 1 fC fdC ["octet"] spCode := ok_code FC N
  have GH : FnOk P w K mg base CX0 1 fH fdH ["code"] spChar := ok_char FH N
  refine F.ok scDec (fun vs H Q E h => ?_) (fun cdv A outer s H vs Q E hr h => ?_)
  · obtain ⟨a, z, rfl, _⟩ := h
    rfl
  · obtain ⟨a, z, rfl, ha, hz, q⟩ := h
    have hl := nm_len z hz
    have hcs := nm_codes z hz
    refine ⟨_, pss_cons (ps_for PassesOwn.never rfl (pi_enum (by rfl) M.enumerate (pa_cons (pv 0) pa_nil)) (pg_tup (by rfl) (pgs_cons (pg_name (i := 1) scDec.nd rfl (.inl rfl)) (pgs_cons (pg_name (i := 2) scDec.nd rfl (.inl rfl)) pgs_nil)))
        (pss_one (ps_if (pt_not (pt_val (pe_call GC hr (by rfl) gC FC.kp bC .nil pass0 (pa_cons (pv 2) pa_nil)))) pss_dead pss_nil)))
      (pss_one (ps_ret (pe_join pe_str (pe_lc (own := [("octet", 2)]) (g := gName 2) (tt := tYes) rfl scDec.nd (pi_list (pv 0))
        (blkOk_by (N := ["octets", "index", "octet"]) (sc := defScope sDecodeText) (by decide +kernel))
        (fun _ _ _ _ _ => pg_name (i := 2) scDec.nd rfl (Or.inl rfl)) (fun _ _ _ _ _ => pts_nil)
        (fun _ _ _ _ _ => pe_call GH hr (by rfl) gH FH.kp bH .nil pass0 (pa_cons (pv 2) pa_nil)))))), ?_⟩
    refine ⟨.ref a, rfl, a, _, rfl, .inl (.inl ha), ?_⟩
    refine for_it (walk_enum (xs := (nmo z).map V.int)) (fun i σ H3 => ∃ y1 y2, σ = [some (.ref a), y1, y2] ∧ Same H H3) ⟨_, _, rfl, Same.refl _⟩ ?_ ?_ ?_
    · rintro i σ H3 hi ⟨y1, y2, rfl, sm⟩
      exact .inl (.inl (sm _ _ ha))
    · rintro i x σ H3 H' hi ⟨y1, y2, rfl, sm⟩ ⟨Tp, x1, x2, rfl, nT, rfl, f1, f2⟩
      obtain ⟨c, c1, rfl⟩ := nmo_at f2
      have hc := hcs c (List.mem_of_getElem? c1)
      refine ⟨Tp, _, rfl, .inl (.inl upd_same), rfl, _, _, rfl, _, _, rfl, rfl, ?_⟩
      exact ⟨_, rfl, c, rfl, hc.1, hc.2, true, rfl, iteF ⟨_, _, rfl, sm.trans (same_new nT)⟩⟩
    · rintro σ H3 ⟨y1, y2, rfl, sm⟩
      refine ⟨⟨_, rfl⟩, .ref a, rfl, a, rfl, ⟨_, .inl (.inl (sm _ _ ha))⟩, fun D nD => ?_⟩
      refine lc_it (walk_list (xs := (nmo z).map V.int)) (fun i H4 => Same H3 H4 ∧ H4 D = some (.lst (((z.cps.toList.take i).map sg).map V.str))) ⟨same_new nD, upd_same⟩ (fun i H4 _ p => .inl (.inl (p.1 _ _ (sm _ _ ha)))) ?_ ?_
      · rintro i x H4 H' hi ⟨s4, hD⟩ ⟨rfl, hx⟩
        obtain ⟨c, c1, rfl⟩ := nmo_at hx
        have hc := hcs c (List.mem_of_getElem? c1)
        refine ⟨rfl, ?_⟩
        dsimp only [tYes]
        rw [if_pos rfl]
        refine ⟨_, rfl, c, rfl, hc.1, hc.2, _, hD, ?_, same_put s4 nD, ?_⟩
        · rw [List.length_map, List.length_map, List.length_take]
          exact small1000 (by have : z.cps.toList.length = z.length := by simp [Str.length]
                              omega)
        · rw [upd_same, List.take_add_one, c1, List.map_append, List.map_append]
          rfl
      · rintro H4 ⟨s4, hD⟩
        have e0 : ((nmo z).map V.int).length = z.cps.toList.length := by
          rw [List.length_map]
          unfold nmo
          rw [List.length_map]
        rw [e0, List.take_length] at hD
        refine ⟨("" : Str), D, z.cps.toList.map sg, rfl, rfl, .inl (.inl (.inl hD)), ?_, ?_⟩
        · exact Nat.le_trans (nm_sum z hz) (by decide)
        · rw [nm_join z hz]
          exact q _ (sm.trans s4)
def spSimple : Sp := fun vs H Q _ => ∃ z : Str, vs = [.str z] ∧ z ∈ NMS ∧ Q (.bl true) H
theorem scSimple : FnScope ["text"] ["text"] (defScope sIsSimpleName) := ⟨rfl, rfl, rfl, by decide +kernel, rfl, by decide +kernel, by decide +kernel⟩
theorem ok_simple {f : Addr} {fd : FuncData} (F : Fun K "is_simple_name" "is_simple_name" sIsSimpleName f fd) (M : Nm mg) (N : Ct4 mg) : FnOk P w K mg base CX0 1 f fd ["text"] spSimple := by
  refine F.ok scSimple (fun vs H Q E h => ?_) (fun cdv A outer s H vs Q E hr h => ?_)
  · obtain ⟨z, rfl, _⟩ := h
    rfl
  · obtain ⟨z, rfl, hz, q⟩ := h
    have hl := nm_len z hz
    have hz2 : z.length ≤ sizeLine := Nat.le_trans hl.2 (by decide)
    obtain ⟨u1, m1, r1⟩ := N.nc
    obtain ⟨u2, m2, r2⟩ := N.dg
    obtain ⟨u3, m3, r3⟩ := N.lg
    refine ⟨_, pss_cons (ps_if (pt_not (pt_chain op_le op_le pe_int (pe_callB call_len_str (by rfl) M.len PySem.boot_len (pa_cons (pv 0) pa_nil)) (pe_glob (by rfl) m3 r3))) (pss_one (ps_ret pe_bl)) pss_nil)
      (pss_one (ps_ret (pe_and (pe_cmpR op_eq (pe_m1 PySem.F.slot_str_strip PySem.F.type_str_strip mt_stripChars (pv 0) (pe_glob (by rfl) m1 r1)) pe_str (nomark _)) (pe_one (pe_cmpR op_notInS (pe_ix ix_str (pv 0) pe_int (fun _ _ => rfl)) (pe_glob (by rfl) m2 r2) (by rfl)))))), ?_⟩
    refine ⟨_, rfl, z, rfl, hz2, 1, (z.length : Int), rfl, rfl, _, rfl, iteB (decide_eq_true (by omega)) ⟨(z.length : Int), 30, rfl, rfl, _, rfl, iteBF ?_ ?_⟩⟩
    · rw [decide_eq_true (by omega)]; rfl
    refine ⟨_, rfl, ⟨z, rfl⟩, z, NCH, rfl, rfl, hz2, rfl, _, rfl, ?_⟩
    rw [nm_strip z hz]
    refine iteB (decide_eq_true rfl) ⟨_, rfl, z, 0, hd0 z, rfl, rfl, hz2, atI_nat (j := 0) (nm_hd z hz).1, hd0 z, DIG, rfl, rfl, ?_⟩
    rw [decide_eq_false (nm_hd z hz).2]
    exact q
end
end K2

/-! enumerate over a tuple -/
namespace K2
open PySem PySem.Spec PyProof.Rows L2
section
variable {prog : Program} {w : World} {A : Around} {E : Value → Shared → Prop} {s : Shared}
theorem enew1 {v : Value} {o : Obj} {Hh : Heap → Prop} (B : Begins v o Hh) : Meets (Builtin.«enumerate.__new__» ⟨[.type "enumerate", v], []⟩) (fun _ R s0 => Hh s0.heap ∧
    R (.ok (.ret (.ref (s0.heap.push o).objs.size))) { s0 with heap := (s0.heap.push o).push ⟨.type "enumerate", none, .fields #[.none, .bool false, .ref s0.heap.objs.size, rawInt 0, .none, .none], #[]⟩ }) := .of_wp fun pr w0 A0 R s0 z => by
  obtain ⟨z1, z2⟩ := z
  obtain ⟨hp, g, dd, tk, os⟩ := s0
  have sb := sub_enumerate
  have it1 : ∀ {A' : Around} {E' : Value → Shared → Prop} {Q' : Value → Shared → Prop}, Q' (.ref hp.objs.size) ⟨hp.push o, g, dd, tk, os⟩ → wpAny (model pr w0) A' (pyIter v) Q' E' ⟨hp, g, dd, tk, os⟩ := fun z3 => B.iter pr w0 _ _ ⟨hp, g, dd, tk, os⟩ _ z1 z3
  wp_walk using it1
  refine wpAny_stack_any fun _ => ?_
  refine wpAny_pure ?_
  split
  · rename_i c _ _ _ _ _
    cases (c == Value.type "enumerate") <;> (wp_walk using it1; exact ⟨_, rfl, z2⟩)
  · wp_walk using it1
    exact ⟨_, rfl, z2⟩
theorem ecall1 {v : Value} {o : Obj} {Hh : Heap → Prop} {Q : Value → Shared → Prop} (B : Begins v o Hh) (z1 : Hh s.heap)
    (z : ∀ h2, IsEnum h2 (s.heap.objs.size + 1) s.heap.objs.size 0 .none → h2.get? s.heap.objs.size = some o → (∀ b u, s.heap.get? b = some u → h2.get? b = some u) → Q (.ref (s.heap.objs.size + 1)) { s with heap := h2 }) :
    wpAny (model prog w) A (call (.type "enumerate") [v]) Q E s := by
  have sz : (s.heap.push o).objs.size = s.heap.objs.size + 1 := Heap.size_push ..
  refine callType_new F.called_enumerate (by decide) (F.typeCall_enumerate_1 _) (F.newCall_enumerate_1 _) (fun ob => F.args_object_init_2 ob _) F.entry_enumerate_new (enew1 B) ⟨z1, ?_⟩
  show _ ∧ _
  rw [sz]
  have en : IsEnum ((s.heap.push o).push ⟨.type "enumerate", none, .fields #[.none, .bool false, .ref s.heap.objs.size, rawInt 0, .none, .none], #[]⟩) (s.heap.objs.size + 1) s.heap.objs.size 0 .none := by
    have y := Heap.get?_push_size (s.heap.push o) (o := ⟨.type "enumerate", none, .fields #[.none, .bool false, .ref s.heap.objs.size, rawInt 0, .none, .none], #[]⟩) rfl
    rw [sz] at y
    exact y
  exact ⟨⟨_, en, rfl⟩, z _ en (Heap.get?_push_of_some _ (Heap.get?_push_size _ B.free)) fun b u y => Heap.get?_push_of_some _ (Heap.get?_push_of_some _ y)⟩
end
/-- the tuple at a, each item in a new pair with its number -/
def IteT (K : PySem.W.Frag) (a : Addr) (xs : List V) : It :=
  ⟨fun i H => SqT K H a xs ∧ i < xs.length, fun i H v H' => ∃ T x, v = .ref T ∧ H T = none ∧ H' = upd H T (.tup [.int (i : Nat), x]) ∧ xs[i]? = some x, fun i H => SqT K H a xs ∧ xs.length = i⟩
theorem tu_enumT {P : Program} {w : World} {K : PySem.W.Frag} {elts : List Expr} {kk : Nat} {tpos : Pos} (a e it : Addr) (xs : List V) :
    Turn P w K (.Tuple elts kk tpos) (IteT K a xs) [e, it] e (fun i h => (∃ old, IsEnum h e it ((i : Nat) : Int) old) ∧ h.IsTupleIter it a i ∧ e ≠ it) := by
  have apart : ∀ {h : Heap} {i : Nat} {old : Value} {its : Array Value}, IsEnum h e it (i : Int) old → h.IsTupleIter it a i → h.IsTuple a its → e ≠ a ∧ a ≠ it := by
    rintro h i old its q1 ⟨o, q2, q3, _⟩ ⟨o', q4, q5, _⟩
    refine ⟨fun z => ?_, fun z => ?_⟩
    · rw [← z, q1] at q4
      have y := Option.some.inj q4
      rw [← y] at q5
      exact absurd (Value.type.inj q5) (by decide)
    · rw [z, q2] at q4
      have y := Option.some.inj q4
      rw [← y, q3] at q5
      exact absurd (Value.type.inj q5) (by decide)
  refine ⟨by simp, ?_, ?_, ?_, ?_, ?_⟩
  · rintro i h ⟨⟨old, q1⟩, ⟨o, q2, q3, q4⟩, _⟩ b hb
    rcases List.mem_cons.mp hb with rfl | hb
    · exact ⟨_, q1, fun v z => nomatch z⟩
    · rw [List.mem_singleton.mp hb]
      exact ⟨o, q2, fun v z => by rw [q4] at z; cases z⟩
  · rintro i h h' ⟨⟨old, q1⟩, q2, q3⟩ k
    exact ⟨⟨old, k e (by simp) _ q1⟩, q2.at fun o q => k it (by simp) o q, q3⟩
  · intro X hP hw hK hc i pins s σ H E I hf st hg
    subst hP hw hK
    obtain ⟨⟨old, q1⟩, q2, ne⟩ := st
    obtain ⟨hq, hi⟩ := hg
    obtain ⟨its, rv, p, _⟩ := I.tuple hq
    have pt : s.heap.IsTuple a its.toArray := p
    obtain ⟨na, nt⟩ := apart q1 q2 pt
    have hi2 : i < its.toArray.size := by rw [List.size_toArray, ← rv.length]; exact hi
    obtain ⟨u, hu, ru⟩ := rv.get (List.getElem?_eq_getElem hi)
    have l1 : e < s.heap.objs.size := Heap.lt_size q1
    have l2 : it < s.heap.objs.size := by obtain ⟨_, q, _⟩ := q2; exact Heap.lt_size q
    refine wpAny_pyNext_enum_itemD (Draws.tuple (prog := X.prog) (w := X.w) (A := X.A.in1) (I.ok.hd hc) it a nt its.toArray) q1 ⟨q2, pt⟩ hi2 ne (by simp [ne, na]) fun x h2 tk hPx ho hst hT hsz hk => ?_
    have ex : x = u := by
      have y : its.toArray[i]? = some x := hPx
      rw [List.getElem?_toArray, hu] at y
      exact (Option.some.inj y).symm
    subst ex
    refine ⟨_, rfl, wpAny_letOwnedTupleGo_enum (s := { s with heap := h2, toks := tk + 1 }) ho fun h3 he3 sb => ?_⟩
    have hT3 : h3.get? s.heap.objs.size = some { cls := .type "tuple", data := .seq #[.int i tk, x] } := (sb.2 _ (Nat.ne_of_gt l1)).trans hT
    have sm3 : ∀ b ob, b ∉ [e, it] → s.heap.get? b = some ob → h3.get? b = some ob := fun b ob hb q => by
      have n1 : b ≠ e := fun z => hb (by simp [z])
      have n2 : b ≠ it := fun z => hb (by simp [z])
      exact (sb.2 b n1).trans (hk b ob n1 n2 q)
    have nw : ObjOk X.prog X.w (upd H s.heap.objs.size (.tup [.int (i : Nat), xs[i]])) h3 s.heap.objs.size (.tup [.int (i : Nat), xs[i]]) :=
      ⟨by show 2 ≤ sizeLine; decide, [.int i tk, x], .cons ⟨_, rfl⟩ (.cons ru .nil), _, hT3, rfl, _, rfl⟩
    have I3 := I.turnedNew (t' := tk + 1) (ch := [e, it]) sm3 hf (Nat.le_refl _) nw
    refine ⟨.ref s.heap.objs.size, _, I3, rfl, ⟨_, xs[i], rfl, I.hok.fresh (Nat.le_refl _), rfl, List.getElem?_eq_getElem hi⟩, ⟨⟨x, ?_⟩, hst.1.at fun o q => (sb.2 it ne.symm).trans q, ne⟩, fun b hb => ?_⟩
    · have y : ((i + 1 : Nat) : Int) = (i : Int) + 1 := by omega
      rw [y]
      exact he3
    · have lb : b < s.heap.objs.size := by
        rcases List.mem_cons.mp hb with rfl | hb
        · exact l1
        · rw [List.mem_singleton.mp hb]
          exact l2
      rw [upd_ne (Nat.ne_of_lt lb)]
      exact (hf b hb).1
  · intro X hP hw hK hc i pins s σ H E I hf st hg
    subst hP hw hK
    obtain ⟨⟨old, q1⟩, q2, ne⟩ := st
    obtain ⟨hq, hi⟩ := hg
    obtain ⟨its, rv, p, _⟩ := I.tuple hq
    have pt : s.heap.IsTuple a its.toArray := p
    obtain ⟨na, nt⟩ := apart q1 q2 pt
    obtain ⟨f0, f1, f2, f3, f4, f5⟩ := hf it (by simp)
    have hi2 : i = its.toArray.size := by rw [List.size_toArray, ← rv.length]; exact hi.symm
    subst hi2
    exact wpAny_pyNext_enum_endD (Draws.tuple (prog := X.prog) (w := X.w) (A := X.A.in1) (I.ok.hd hc) it a nt its.toArray) q1 ⟨q2, pt⟩ fun h2 eb => ⟨rfl, I.turned (t' := s.toks) (fun b o hb q => eb b o hb q) f0 f1 f3 f4 f5⟩
  · exact fun A i s Q E st h => let ⟨⟨_, q⟩, _⟩ := st; wpAny_pyIter_enum q h
def iEnumT (K : PySem.W.Frag) (ta : TA) : TI := fun σ H R => ta σ H fun vs H1 => ∃ a xs, vs = [.ref a] ∧ SqT K H1 a xs ∧ R (IteT K a xs) H1
theorem pi_enumT {X : Cx} {e : Expr} {ta : TA} {p pos tpos : Pos} {elts : List Expr} {kk : Nat} (hg : Gl X "enumerate") (hm : X.mg "enumerate" = none) (ha : PA X [e] ta) (hs : starEach [e] X.env = [(false, eval e X.env)] := by rfl) :
    PI X (.Tuple elts kk tpos) (.Call (.Name "enumerate" p) [e] [] pos) (iEnumT X.K ta) := by
  refine ⟨fun pins s σ H R I h => Call_ (ld_blt I hg hm boot_enumerate (PyProof.Rows.callWith_type1 (thn (ha.run pos pins s σ H _ I h) fun us s1 ⟨vs, H1, I1, r1, a, xs, ex, hq, q⟩ => ?_) hs rfl))⟩
  subst ex
  obtain ⟨its, rv, p', _⟩ := I1.tuple hq
  cases r1 with
  | cons r rr =>
    cases rr
    cases r
    refine ecall1 (begins_tuple a its.toArray) p' fun h2 he ht hk => wpAny_pyIter_enum he ?_
    refine ⟨s1.heap.objs.size + 1, [s1.heap.objs.size + 1, s1.heap.objs.size], _, _, H1, rfl, I1.kept (t' := s1.toks) hk, tu_enumT a (s1.heap.objs.size + 1) s1.heap.objs.size xs, ⟨⟨.none, he⟩, ⟨_, ht, rfl, rfl⟩, Nat.succ_ne_self _⟩, fun b hb => ?_, q⟩
    have lb : s1.heap.objs.size ≤ b := by
      rcases List.mem_cons.mp hb with rfl | hb
      · exact Nat.le_succ _
      · rw [List.mem_singleton.mp hb]
        exact Nat.le_refl _
    exact I1.fpOk lb (I1.hok.fresh lb)
theorem walk_enumT {K : PySem.W.Frag} {a : Addr} {xs : List V} : Walk (IteT K a xs) xs.length (fun H => SqT K H a xs) (YPair (fun i => some (.int (i : Nat))) (fun i => xs[i]?)) :=
  ⟨fun i _ hi q => ⟨q, hi⟩, fun _ q => ⟨q, rfl⟩, fun i H v H' _ q ⟨T, x, h1, h2, h3, h4⟩ => ⟨T, .int (i : Nat), x, h1, h2, h3, rfl, h4⟩⟩
end K2

namespace K2
open PySem PySem.Spec PyProof.Rows L2
/-- three comparisons in a row -/
def tChain3 (r1 r2 r3 : R2) (ta tb tc td : TE) : TE := fun σ H Q => ta σ H fun x H1 => tb σ H1 fun y H2 => r1 x y H2 fun z H3 => ∃ k, z = .bl k ∧
  (if k = true then tc σ H3 fun y2 H4 => r2 y y2 H4 fun z2 H5 => ∃ k2, z2 = .bl k2 ∧ (if k2 = true then td σ H5 fun y3 H6 => r3 y2 y3 H6 Q else Q (.bl false) H5) else Q (.bl false) H3)
section
variable {X : Cx} {a b c d : Expr} {ta tb tc td : TE} {pos : Pos}
theorem pe_chain3 {o1 o2 o3 : CmpOp} {r1 r2 r3 : R2} (h1 : OpR X (compareOp o1) r1) (h2 : OpR X (compareOp o2) r2) (h3 : OpR X (compareOp o3) r3) (ha : PE X a ta) (hb : PE X b tb) (hc : PE X c tc) (hd : PE X d td)
    (hm : lastMarks [o1, o2, o3] [b, c, d] = false := by with_unfolding_all rfl) : PE X (.Compare a [o1, o2, o3] [b, c, d] pos) (tChain3 r1 r2 r3 ta tb tc td) := by
  refine ⟨fun pins s σ H Q I h => Compare_chain (thn (ha.run pins s σ H _ I h) fun u1 s1 ⟨x1, H1, I1, q1, g1⟩ => chain_link (thn (hb.run pins s1 σ H1 _ I1 g1) fun u2 s2 ⟨x2, H2, I2, q2, g2⟩ =>
    thn (h1 pins s2 σ H2 x1 x2 u1 u2 _ I2 q1 q2 g2) fun u3 s3 ⟨x3, H3, I3, q3, k, e, g3⟩ => ?_)) hm⟩
  subst e
  cases q3
  refine wpAny_truthy_bool ?_
  cases k with
  | false => exact ite_ff ⟨.bl false, H3, I3, rfl, g3⟩
  | true =>
    refine ite_tt (chain_link (thn (hc.run pins s3 σ H3 _ I3 g3) fun u4 s4 ⟨x4, H4, I4, q4, g4⟩ => thn (h2 pins s4 σ H4 x2 x4 u2 u4 _ I4 q2 q4 g4) fun u5 s5 ⟨x5, H5, I5, q5, k2, e2, g5⟩ => ?_))
    subst e2
    cases q5
    refine wpAny_truthy_bool ?_
    cases k2 with
    | false => exact ite_ff ⟨.bl false, H5, I5, rfl, g5⟩
    | true => exact ite_tt (chain_last (thn (hd.run pins s5 σ H5 _ I5 g5) fun u6 s6 ⟨x6, H6, I6, q6, g6⟩ => h3 pins s6 σ H6 x4 x6 u4 u6 Q I6 q4 q6 g6))
end
/-- what stands at the right of an own == -/
inductive Oth (K : PySem.W.Frag) (H : Hp) (b : Addr) : Value → Prop where
  | ins {C dx : Addr} {fs : List (Str × V)} (e : H b = some (.ins C dx fs)) : Oth K H b (.ref C)
  | tup {xs : List V} (e : SqT K H b xs) : Oth K H b (.type "tuple")
def rOwnEq (K : PySem.W.Frag) (C : Addr) (sp : Sp) (E : XK) : R2 := fun x y H Q => ∃ (a dx : Addr) (fs : List (Str × V)) (b : Addr) (tb : Value), x = .ref a ∧ y = .ref b ∧ H a = some (.ins C dx fs) ∧ Oth K H b tb ∧ PySem.W.notFirst K C tb = true ∧ sp [x, y] H Q E
section
variable {X : Cx} {n : Nat} {C g : Addr} {sp : Sp} {CX : CXT} {E : XK} {fd : FuncData} {ps : List Str}
theorem op_owneq (hs : PySem.W.findIn X.K (.ref C) "__eq__" = some (some (.ref g))) (hf : PySem.W.isFn X.K (.ref g) = true) (F : FnOk X.prog X.w X.K X.mg X.base CX n g fd ps sp) (hb : Binds X.K fd ps [])
    (hr : Room n X.A) (hx : Passes CX X E) : OpR X (compareOp .Eq) (rOwnEq X.K C sp E) := by
  intro pins s σ H x y v u Q I rx ry h
  obtain ⟨a, dx, fs, b, tb, rfl, rfl, ha, ho, hn, q⟩ := h
  obtain rfl : v = Value.ref a := rx
  obtain rfl : u = Value.ref b := ry
  obtain ⟨_, J, _⟩ := ins_get I.hok ha
  obtain ⟨_, J, _⟩ := J.look
  obtain ⟨_, hF⟩ := I.fr
  have lk : PySem.W.Looks (model X.prog X.w) s.heap (typeOf (.ref b)) tb := by
    cases ho with
    | ins e =>
      obtain ⟨_, J2, _⟩ := ins_get I.hok e
      obtain ⟨_, J2, _⟩ := J2.look
      exact J2.type
    | tup e =>
      obtain ⟨_, _, ⟨o, e1, e2, _⟩, _⟩ := I.tuple e
      exact e2 ▸ (PySem.W.Looks.ld e1).andThen .now
  refine PySem.W.cmp_K (op := .Eq) (tb := tb) hr.units0 hF I.ok.mod.kin J lk hn hs hf ?_
  have F2 : FnR X.prog X.w X.K X.mg X.base CX n g sp := (FnOk.raw F hb .nil).imp fun vs H Q E h => by
    rw [List.append_nil]
    exact h
  refine wpAny_mono (wpAny_call (run_fnR (us := [.ref a, .ref b]) (vs := [.ref a, .ref b]) F2 hr hx I (.cons rfl (.cons rfl .nil)) q)) (fun w s' z => ?_) fun _ _ x => x
  obtain ⟨z', H', I', rz, qz⟩ := z
  exact SlX.cmpback rz ⟨z', H', I', rz, qz⟩
end
end K2

namespace K2
open PySem L2
structure GDs (d : D) : Prop where
  nm : d.n ∈ NMS
  l0 : -1000000 ≤ d.l
  lh : d.l ≤ d.h
  h1 : d.h ≤ 1000000
  s0 : 1 ≤ d.s
  s1 : d.s ≤ 1000000
structure GTs (t : T) : Prop where
  nm : t.n ∈ NMS
  k : t.k ∈ KS
structure GSh (ds : List D) (ts : List T) : Prop where
  d0 : 1 ≤ ds.length ∧ ds.length ≤ 6
  t0 : 1 ≤ ts.length ∧ ts.length ≤ 16
  d : ∀ d ∈ ds, GDs d
  t : ∀ t ∈ ts, GTs t
  nd : (ds.map (·.n) ++ ts.map (·.n)).Nodup
structure Ct5 (mg : Str → Option Value) : Prop where
  md : ∃ v, mg "MOST_DIMS" = some v ∧ RelV (.int 6) v
  ma : ∃ v, mg "MOST_ATTRS" = some v ∧ RelV (.int 16) v
  fu : ∃ v, mg "FURTHEST" = some v ∧ RelV (.int 1000000) v
  st : ∃ v, mg "LONGEST_STEP" = some v ∧ RelV (.int 1000000) v
theorem flat_strs (ls : List Str) : (ls.map V.str).all flatV = true := by
  rw [List.all_eq_true]
  intro x hx
  obtain ⟨i, _, rfl⟩ := List.mem_map.mp hx
  rfl
theorem inV_str (o : Str) (ls : List Str) : inV (.str o) (ls.map V.str) = decide (o ∈ ls) := by
  unfold inV
  rw [Bool.eq_iff_iff, List.any_eq_true, decide_eq_true_eq]
  constructor
  · rintro ⟨x, hx, e⟩
    obtain ⟨i, hi, rfl⟩ := List.mem_map.mp hx
    have e2 : (i == o) = true ∨ (o == i) = true := by first | exact .inl e | exact .inr e
    rcases e2 with z | z
    · rw [← eq_of_beq z]; exact hi
    · rw [eq_of_beq z]; exact hi
  · intro h
    exact ⟨.str o, List.mem_map.mpr ⟨o, h, rfl⟩, by show (o == o) = true; exact beq_self_eq_true o⟩
section
variable {P : Program} {w : World} {K : PySem.W.Frag} {mg : Str → Option Value} {base : Heap}
def spIsDim : Sp := fun vs H Q _ => ∃ (a : Addr) (d : D), vs = [.ref a] ∧ H a = some (.tup d.v) ∧ GDs d ∧ Q (.bl true) H
theorem scIsDim : FnScope ["dim", "name", "low", "high", "step"] ["dim"] (defScope sIsDim) := ⟨rfl, rfl, rfl, by decide +kernel, rfl, by decide +kernel, by decide +kernel⟩
theorem ok_isDim {f fS : Addr} {fd fdS : FuncData} (F : Fun K "is_dim" "is_dim" sIsDim f fd) (N : Ct5 mg) (GS : FnOk P w K mg base CX0 1 fS fdS ["text"] spSimple) (kS : PySem.W.keepIn K (.ref fS) = true) (bS : Binds K fdS ["text"] []) (gS : mg "is_simple_name" = some (.ref fS)) :
    FnOk P w K mg base CX0 2 f fd ["dim"] spIsDim := by
  refine F.ok scIsDim (fun vs H Q E h => ?_) (fun cdv A outer s H vs Q E hr h => ?_)
  · obtain ⟨a, d, rfl, _⟩ := h
    rfl
  · obtain ⟨a, d, rfl, ha, g, q⟩ := h
    obtain ⟨u1, m1, r1⟩ := N.fu
    obtain ⟨u2, m2, r2⟩ := N.st
    refine ⟨_, pss_cons (ps_asg (pv 0) (pg_tup (by rfl) (pgs_cons (pg_name (i := 1) scIsDim.nd rfl (.inl rfl)) (pgs_cons (pg_name (i := 2) scIsDim.nd rfl (.inl rfl)) (pgs_cons (pg_name (i := 3) scIsDim.nd rfl (.inl rfl)) (pgs_cons (pg_name (i := 4) scIsDim.nd rfl (.inl rfl)) pgs_nil))))))
      (pss_one (ps_ret (pe_and (pe_call GS hr (by rfl) gS kS bS .nil pass0 (pa_cons (pv 1) pa_nil)) (pe_and (pe_chain3 op_le op_le op_le (pe_un un_neg (pe_glob (by rfl) m1 r1)) (pv 2) (pv 3) (pe_glob (by rfl) m1 r1)) (pe_one (pe_chain op_le op_le pe_int (pv 4) (pe_glob (by rfl) m2 r2))))))), ?_⟩
    refine ⟨_, rfl, a, d.v, rfl, SqT.of ha, rfl, _, _, rfl, _, _, rfl, _, _, rfl, _, _, rfl, rfl, ?_⟩
    refine ⟨_, rfl, d.n, rfl, g.nm, _, rfl, iteT ⟨1000000, rfl, _, rfl, -1000000, d.l, rfl, rfl, _, rfl, iteB (decide_eq_true g.l0) ⟨_, rfl, d.l, d.h, rfl, rfl, _, rfl, iteB (decide_eq_true g.lh) ⟨d.h, 1000000, rfl, rfl, _, rfl, iteB (decide_eq_true g.h1) ⟨_, rfl, 1, d.s, rfl, rfl, _, rfl, iteB (decide_eq_true g.s0) ⟨d.s, 1000000, rfl, rfl, ?_⟩⟩⟩⟩⟩⟩
    show Q (.bl (decide (d.s ≤ 1000000))) H
    rw [decide_eq_true g.s1]
    exact q
def spIsAttr : Sp := fun vs H Q _ => ∃ (a : Addr) (d : T), vs = [.ref a] ∧ H a = some (.tup d.v) ∧ GTs d ∧ Q (.bl true) H
theorem scIsAttr : FnScope ["attr", "name", "kind"] ["attr"] (defScope sIsAttr) := ⟨rfl, rfl, rfl, by decide +kernel, rfl, by decide +kernel, by decide +kernel⟩
theorem ok_isAttr {f fS : Addr} {fd fdS : FuncData} (F : Fun K "is_attr" "is_attr" sIsAttr f fd) (Z : Ct2 K mg) (GS : FnOk P w K mg base CX0 1 fS fdS ["text"] spSimple) (kS : PySem.W.keepIn K (.ref fS) = true) (bS : Binds K fdS ["text"] []) (gS : mg "is_simple_name" = some (.ref fS)) :
    FnOk P w K mg base CX0 2 f fd ["attr"] spIsAttr := by
  refine F.ok scIsAttr (fun vs H Q E h => ?_) (fun cdv A outer s H vs Q E hr h => ?_)
  · obtain ⟨a, d, rfl, _⟩ := h
    rfl
  · obtain ⟨a, d, rfl, ha, g, q⟩ := h
    obtain ⟨kk, mk, hk, _⟩ := Z.kinds
    refine ⟨_, pss_cons (ps_asg (pv 0) (pg_tup (by rfl) (pgs_cons (pg_name (i := 1) scIsAttr.nd rfl (.inl rfl)) (pgs_cons (pg_name (i := 2) scIsAttr.nd rfl (.inl rfl)) pgs_nil))))
      (pss_one (ps_ret (pe_and (pe_call GS hr (by rfl) gS kS bS .nil pass0 (pa_cons (pv 1) pa_nil)) (pe_one (pe_cmpR op_in_seq (pv 2) (pe_glob (v := .ref kk) (by rfl) mk rfl) (by rfl)))))), ?_⟩
    refine ⟨_, rfl, a, d.v, rfl, SqT.of ha, rfl, _, _, rfl, _, _, rfl, rfl, ?_⟩
    refine ⟨_, rfl, d.n, rfl, g.nm, _, rfl, iteT ⟨_, rfl, kk, _, rfl, .inr (hk _), rfl, flat_strs _, ?_⟩⟩
    rw [inV_str, decide_eq_true g.k]
    exact q
def spCheck (C : Addr) : Sp := fun vs H Q _ => ∃ (v : V) (ds : List D) (ts : List T), vs = [v] ∧ ShAt H C v ds ts ∧ GSh ds ts ∧ ∀ H', Same H H' → Q .non H'
theorem scCheck : FnScope ["shape", "names", "index", "dim", "attr"] ["shape"] (defScope sCheckShape) := ⟨rfl, rfl, rfl, by decide +kernel, rfl, by decide +kernel, by decide +kernel⟩
theorem ok_check {f fD fA fI C : Addr} {fd fdD fdA : FuncData} (F : Fun K "check_shape" "check_shape" sCheckShape f fd) (M : Nm mg) (N : Ct5 mg) (S : KC K C fI SHf) (GD : FnOk P w K mg base CX0 2 fD fdD ["dim"] spIsDim) (kD : PySem.W.keepIn K (.ref fD) = true) (bD : Binds K fdD ["dim"] []) (gD : mg "is_dim" = some (.ref fD))
    (GA : FnOk P w K mg base CX0 2 fA fdA ["attr"] spIsAttr) (kA : PySem.W.keepIn K (.ref fA) = true) (bA : Binds K fdA ["attr"] []) (gA : mg "is_attr" = some (.ref fA)) : FnOk P w K mg base CX0 3 f fd ["shape"] (spCheck C) := by
  refine F.ok scCheck (fun vs H Q E h => ?_) (fun cdv A outer s H vs Q E hr h => ?_)
  · obtain ⟨v, ds, ts, rfl, _⟩ := h
    rfl
  · obtain ⟨v, ds, ts, rfl, ⟨a, dx, v1, v2, rfl, ha, ⟨td, xs, rfl, htd, had⟩, ⟨ta, ys, rfl, hta, hat⟩⟩, g, q⟩ := h
    obtain ⟨u1, m1, r1⟩ := N.md
    obtain ⟨u2, m2, r2⟩ := N.ma
    refine ⟨_, pss_cons (ps_if (PW.pt (pw_or (pt_not (pt_chain op_le op_le pe_int (pe_callB call_len_seq (by rfl) M.len PySem.boot_len (pa_cons (pe_fld (pv 0) rfl) pa_nil)) (pe_glob (by rfl) m1 r1)))
          (pw_or1 (pt_not (pt_chain op_le op_le pe_int (pe_callB call_len_seq (by rfl) M.len PySem.boot_len (pa_cons (pe_fld (pv 0) rfl) pa_nil)) (pe_glob (by rfl) m2 r2)))))) pss_dead pss_nil)
      (pss_cons (ps_set (i := 1) scCheck.nd rfl (.inl rfl) (pe_lst pa_nil))
      (Evl.pss_cut (ps_for PassesOwn.never rfl (pi_enumT (by rfl) M.enumerate (pa_cons (pe_fld (pv 0) rfl) pa_nil)) (pg_tup (by rfl) (pgs_cons (pg_name (i := 2) scCheck.nd rfl (.inl rfl)) (pgs_cons (pg_name (i := 3) scCheck.nd rfl (.inl rfl)) pgs_nil)))
        (pss_cons (ps_if (PW.pt (pw_or (pt_not (pt_val (pe_call GD hr (by rfl) gD kD bD .nil pass0 (pa_cons (pv 3) pa_nil)))) (pw_or1 (pt_cmpR op_in_seq (pe_ix ix_tup (pv 3) pe_int (fun _ _ => rfl)) (pv 1) (by rfl))))) pss_dead pss_nil)
        (pss_one (ps_expr (pe_bm PySem.F.plainAttrs_list PySem.F.slot_list_append PySem.F.type_list_append mt_append (pv 1) (pa_cons (pe_ix ix_tup (pv 3) pe_int (fun _ _ => rfl)) pa_nil))))))
      (pss_one (ps_for PassesOwn.never rfl (pi_enumT (by rfl) M.enumerate (pa_cons (pe_fld (pv 0) rfl) pa_nil)) (pg_tup (by rfl) (pgs_cons (pg_name (i := 2) scCheck.nd rfl (.inl rfl)) (pgs_cons (pg_name (i := 4) scCheck.nd rfl (.inl rfl)) pgs_nil)))
        (pss_cons (ps_if (PW.pt (pw_or (pt_not (pt_val (pe_call GA hr (by rfl) gA kA bA .nil pass0 (pa_cons (pv 4) pa_nil)))) (pw_or1 (pt_cmpR op_in_seq (pe_ix ix_tup (pv 4) pe_int (fun _ _ => rfl)) (pv 1) (by rfl))))) pss_dead pss_nil)
        (pss_one (ps_expr (pe_bm PySem.F.plainAttrs_list PySem.F.slot_list_append PySem.F.type_list_append mt_append (pv 1) (pa_cons (pe_ix ix_tup (pv 4) pe_int (fun _ _ => rfl)) pa_nil))))))))), ?_⟩
    have hxl := had.1
    have hyl := hat.1
    have n1 : NoAttr K C "dims" := S.na _ (by decide +kernel)
    have n2 : NoAttr K C "attrs" := S.na _ (by decide +kernel)
    have g1 := g.d0
    have g2 := g.t0
    refine ⟨_, rfl, a, C, dx, _, .ref td, rfl, ha, S.cl, n1, rfl, td, xs, rfl, .inr (SqT.of htd), 1, (xs.length : Int), rfl, rfl, _, rfl, iteB (decide_eq_true (by omega)) ⟨_, 6, rfl, rfl, _, rfl, iteBF (by rw [decide_eq_true (by omega)]; rfl) ?_⟩⟩
    refine ⟨_, rfl, a, C, dx, _, .ref ta, rfl, ha, S.cl, n2, rfl, ta, ys, rfl, .inr (SqT.of hta), 1, (ys.length : Int), rfl, rfl, _, rfl, iteB (decide_eq_true (by omega)) ⟨_, 16, rfl, rfl, _, rfl, iteBF (by rw [decide_eq_true (by omega)]; rfl) ?_⟩⟩
    refine ⟨Nat.zero_le _, fun nl nn => ?_⟩
    have nd := List.nodup_append.mp g.nd
    refine ⟨fun σ H2 => ∃ y2 y3, σ = [some (.ref a), some (.ref nl), y2, y3, none] ∧ Same H H2 ∧ H2 nl = some (.lst ((ds.map (·.n)).map V.str)), ?_, ?_⟩
    · refine ⟨_, rfl, a, C, dx, _, .ref td, rfl, same_new nn _ _ ha, S.cl, n1, rfl, td, xs, rfl, SqT.of (same_new nn _ _ htd), ?_⟩
      refine for_it (walk_enumT (xs := xs)) (fun i σ H2 => ∃ y2 y3, σ = [some (.ref a), some (.ref nl), y2, y3, none] ∧ Same H H2 ∧ H2 nl = some (.lst (((ds.take i).map (·.n)).map V.str))) ⟨_, _, rfl, same_new nn, upd_same⟩ ?_ ?_ ?_
      · rintro i σ H2 hi ⟨y2, y3, rfl, s2, _⟩
        exact SqT.of (s2 _ _ htd)
      · rintro i x σ H2 H' hi ⟨y2, y3, rfl, s2, hn⟩ ⟨Tp, x1, x2, rfl, nT, rfl, f1, f2⟩
        rw [hxl] at hi
        obtain ⟨b, rfl, hb⟩ := had.at hi f2
        have gd := g.d _ (List.getElem_mem hi)
        have hno : ds[i].n ∉ (ds.take i).map (·.n) := fun z => by
          rw [List.map_take] at z
          obtain ⟨m, hm, e⟩ := List.mem_take_iff_getElem.mp z
          have h2 : (ds.map (·.n))[i]'(by rw [List.length_map]; exact hi) = ds[i].n := List.getElem_map _
          have := (List.getElem_inj nd.1 (h₀ := by rw [List.length_map]; omega) (h₁ := by rw [List.length_map]; exact hi)).mp (e.trans h2.symm)
          omega
        have s3 : Same H2 (upd H2 Tp (.tup [x1, .ref b])) := same_new nT
        have hb3 := s3 _ _ (s2 _ _ hb)
        have hn3 := s3 _ _ hn
        refine ⟨Tp, _, rfl, .inl (.inl upd_same), rfl, _, _, rfl, _, _, rfl, rfl, ?_⟩
        refine ⟨_, rfl, b, ds[i], rfl, hb3, gd, true, rfl, iteF ⟨_, rfl, b, _, 0, .str ds[i].n, rfl, rfl, SqT.of hb3, rfl, _, rfl, nl, _, rfl, .inl (.inl (.inl hn3)), rfl, flat_strs _, _, rfl, ?_⟩⟩
        rw [inV_str]
        refine iteBF (by rw [decide_eq_false hno]; rfl) ?_
        refine ⟨_, rfl, .inl ⟨rfl, _, .inl (.inl hn3)⟩, _, rfl, b, _, 0, .str ds[i].n, rfl, rfl, SqT.of hb3, rfl, nl, _, _, rfl, rfl, hn3, ?_, _, _, rfl, fun z o e => ?_, ?_⟩
        · rw [List.length_map, List.length_map, List.length_take]
          exact small1000 (by omega)
        · rw [upd_ne (fun y => by rw [y, nn] at e; cases e)]
          exact s3 _ _ (s2 _ _ e)
        · rw [upd_same, List.take_add_one, List.getElem?_eq_getElem hi, List.map_append, List.map_append]
          rfl
      · rintro σ H2 ⟨y2, y3, rfl, s2, hn⟩
        rw [hxl, List.take_length] at hn
        exact ⟨_, _, rfl, s2, hn⟩
    · rintro σ H2 ⟨y2, y3, rfl, s2, hn⟩
      refine ⟨_, rfl, a, C, dx, _, .ref ta, rfl, s2 _ _ ha, S.cl, n2, rfl, ta, ys, rfl, SqT.of (s2 _ _ hta), ?_⟩
      refine for_it (walk_enumT (xs := ys)) (fun i σ H2 => ∃ y2 y4, σ = [some (.ref a), some (.ref nl), y2, y3, y4] ∧ Same H H2 ∧ H2 nl = some (.lst ((ds.map (·.n) ++ (ts.take i).map (·.n)).map V.str))) ⟨_, _, rfl, s2, by rw [List.take_zero, List.map_nil, List.append_nil]; exact hn⟩ ?_ ?_ ?_
      · rintro i σ H2 hi ⟨y2, y4, rfl, s2, _⟩
        exact SqT.of (s2 _ _ hta)
      · rintro i x σ H2 H' hi ⟨y2, y4, rfl, s2, hn⟩ ⟨Tp, x1, x2, rfl, nT, rfl, f1, f2⟩
        rw [hyl] at hi
        obtain ⟨b, rfl, hb⟩ := hat.at hi f2
        have gt := g.t _ (List.getElem_mem hi)
        have hno : ts[i].n ∉ ds.map (·.n) ++ (ts.take i).map (·.n) := fun z => by
          have h2 : (ts.map (·.n))[i]'(by rw [List.length_map]; exact hi) = ts[i].n := List.getElem_map _
          rcases List.mem_append.mp z with z | z
          · exact nd.2.2 _ z _ (List.mem_map.mpr ⟨ts[i], List.getElem_mem hi, rfl⟩) rfl
          · rw [List.map_take] at z
            obtain ⟨m, hm, e⟩ := List.mem_take_iff_getElem.mp z
            have := (List.getElem_inj nd.2.1 (h₀ := by rw [List.length_map]; omega) (h₁ := by rw [List.length_map]; exact hi)).mp (e.trans h2.symm)
            omega
        have s3 : Same H2 (upd H2 Tp (.tup [x1, .ref b])) := same_new nT
        have hb3 := s3 _ _ (s2 _ _ hb)
        have hn3 := s3 _ _ hn
        refine ⟨Tp, _, rfl, .inl (.inl upd_same), rfl, _, _, rfl, _, _, rfl, rfl, ?_⟩
        refine ⟨_, rfl, b, ts[i], rfl, hb3, gt, true, rfl, iteF ⟨_, rfl, b, _, 0, .str ts[i].n, rfl, rfl, SqT.of hb3, rfl, _, rfl, nl, _, rfl, .inl (.inl (.inl hn3)), rfl, flat_strs _, _, rfl, ?_⟩⟩
        rw [inV_str]
        refine iteBF (by rw [decide_eq_false hno]; rfl) ?_
        refine ⟨_, rfl, .inl ⟨rfl, _, .inl (.inl hn3)⟩, _, rfl, b, _, 0, .str ts[i].n, rfl, rfl, SqT.of hb3, rfl, nl, _, _, rfl, rfl, hn3, ?_, _, _, rfl, fun z o e => ?_, ?_⟩
        · rw [List.length_map, List.length_append, List.length_map, List.length_map, List.length_take]
          exact small1000 (by omega)
        · rw [upd_ne (fun y => by rw [y, nn] at e; cases e)]
          exact s3 _ _ (s2 _ _ e)
        · rw [upd_same, List.take_add_one, List.getElem?_eq_getElem hi, List.map_append (l₁ := ts.take i), ← List.append_assoc]
          simp only [List.map_append]
          rfl
      · rintro σ H2 ⟨y2, y4, rfl, s2, hn⟩
        exact q _ s2
end
end K2

namespace K2
open PySem L2
section
variable {P : Program} {w : World} {K : PySem.W.Frag} {mg : Str → Option Value} {base : Heap}
structure RF (P : Program) (w : World) (K : PySem.W.Frag) (mg : Str → Option Value) (base : Heap) (CO : Addr) where
  (fI fN fO f4 fi : Addr)
  (dN dO d4 di : FuncData)
  T : KC K CO fI ORf
  GN : FnOk P w K mg base CX0 1 fN dN ["self", "count"] (spNO CO)
  bN : Binds K dN ["self", "count"] []
  mN : Meth K CO "next_octets" fN
  GO : FnOk P w K mg base CX0 2 fO dO ["self", "allowed"] (spOf K CO)
  bO : Binds K dO ["self", "allowed"] []
  mO : Meth K CO "next_octet_of" fO
  G4 : FnOk P w K mg base CX0 2 f4 d4 ["self"] (spN4 CO)
  b4 : Binds K d4 ["self"] []
  m4 : Meth K CO "next_four" f4
  Gi : FnOk P w K mg base CX0 3 fi di ["self", "least", "greatest"] (spN4i CO)
  bi : Binds K di ["self", "least", "greatest"] []
  mi : Meth K CO "next_four_in" fi
def spRN (CO : Addr) : Sp := fun vs H Q _ => ∃ (r lo : Addr) (os rest : List Int) (n : Nat) (z : Str), vs = [.ref r] ∧ RdAt CO H r lo os n ∧ os.drop n = wn z ++ rest ∧ z ∈ NMS ∧ ∀ H', Ex H H' r → RdAt CO H' r lo os (n + (wn z).length) → Q (.str z) H'
theorem scRN : FnScope ["reader", "first", "octets", "name"] ["reader"] (defScope sReadName) := ⟨rfl, rfl, rfl, by decide +kernel, rfl, by decide +kernel, by decide +kernel⟩
theorem ok_rn {f fD fS CO : Addr} {fd fdD fdS : FuncData} (F : Fun K "read_name" "read_name" sReadName f fd) (Z : RF P w K mg base CO) (GD : FnOk P w K mg base CX0 2 fD fdD ["octets"] spDec) (kD : PySem.W.keepIn K (.ref fD) = true) (bD : Binds K fdD ["octets"] []) (gD : mg "decode_text" = some (.ref fD))
    (GS : FnOk P w K mg base CX0 1 fS fdS ["text"] spSimple) (kS : PySem.W.keepIn K (.ref fS) = true) (bS : Binds K fdS ["text"] []) (gS : mg "is_simple_name" = some (.ref fS)) : FnOk P w K mg base CX0 3 f fd ["reader"] (spRN CO) := by
  have GN := Z.GN
  have T := Z.T
  refine F.ok scRN (fun vs H Q E h => ?_) (fun cdv A outer s H vs Q E hr h => ?_)
  · obtain ⟨r, lo, os, rest, n, z, rfl, _⟩ := h
    rfl
  · obtain ⟨r, lo, os, rest, n, z, rfl, rd, hd, hz, q⟩ := h
    have hr1 := hr.mono (j := 1) (by decide)
    refine ⟨_, pss_cons (ps_set (i := 1) scRN.nd rfl (.inl rfl) (pe_fld (pv 0) rfl))
      (pss_cons (ps_set (i := 2) scRN.nd rfl (.inl rfl) (pe_meth (pv 0) T.cl Z.mN GN hr1 Z.bN .nil pass0 (pa_cons (pe_ix ix_list (pe_meth (pv 0) T.cl Z.mN GN hr1 Z.bN .nil pass0 (pa_cons pe_int pa_nil)) pe_int (fun _ _ => rfl)) pa_nil)))
      (pss_cons (ps_try_thru0 (pss_one (ps_set (i := 3) scRN.nd rfl (.inl rfl) (pe_call GD hr (by rfl) gD kD bD .nil pass0 (pa_cons (pv 2) pa_nil)))))
      (pss_cons (ps_if (pt_not (pt_val (pe_call GS hr1 (by rfl) gS kS bS .nil pass0 (pa_cons (pv 3) pa_nil)))) pss_dead pss_nil)
      (pss_one (ps_ret (pv 3)))))), ?_⟩
    obtain ⟨dx, e⟩ := rd.i
    have hd1 : os.drop n = [(z.length : Int)] ++ (nmo z ++ rest) := hd
    refine ⟨_, rfl, r, CO, dx, _, .int (n : Int), rfl, e, T.cl, T.na _ (by decide +kernel), rfl, ?_⟩
    refine ⟨_, rfl, r, dx, _, rfl, e, rfl, _, rfl, r, dx, _, rfl, e, rfl, r, lo, os, [(z.length : Int)], nmo z ++ rest, n, rfl, rd, hd1, fun H1 p1 x1 rd1 n1 e1 => ?_⟩
    refine ⟨p1, _, 0, .int (z.length : Int), rfl, rfl, .inl (.inl e1), rfl, ?_⟩
    have hd2 := drop_add' hd1
    refine ⟨r, lo, os, nmo z, rest, n + 1, (by show [V.ref r, V.int (z.length : Int)] = [V.ref r, V.int ((nmo z).length : Int)]; rw [nmo_len]), rd1, hd2, fun H2 p2 x2 rd2 n2 e2 => ?_⟩
    refine ⟨_, rfl, p2, z, rfl, e2, hz, fun H3 s3 => ?_⟩
    refine ⟨_, rfl, z, rfl, hz, true, rfl, iteF ⟨_, rfl, q H3 ((x1.trans x2).same s3) ?_⟩⟩
    have := rd2.same s3
    rwa [show n + 1 + (nmo z).length = n + (wn z).length from by show _ = n + ((nmo z).length + 1); omega] at this
def spRDm (CO : Addr) : Sp := fun vs H Q _ => ∃ (r lo : Addr) (os rest : List Int) (n : Nat) (d : D), vs = [.ref r] ∧ RdAt CO H r lo os n ∧ os.drop n = eD d ++ rest ∧ GDs d ∧ ∀ H' t, Ex H H' r → RdAt CO H' r lo os (n + (eD d).length) → H t = none → H' t = some (.tup d.v) → Q (.ref t) H'
theorem scRDm : FnScope ["reader", "name", "low", "high"] ["reader"] (defScope sReadDim) := ⟨rfl, rfl, rfl, by decide +kernel, rfl, by decide +kernel, by decide +kernel⟩
theorem Ex.free {CO : Addr} {H H1 : Hp} {r lo : Addr} {os : List Int} {n : Nat} (x : Ex H H1 r) (rd : RdAt CO H1 r lo os n) {t : Addr} (h : H1 t = none) : H t = none := by
  cases e : H t with
  | none => rfl
  | some o =>
    have nr : t ≠ r := fun z => by
      obtain ⟨dx, e1⟩ := rd.i
      rw [z, e1] at h
      cases h
    rw [x t o e nr] at h
    cases h
theorem ok_rdm {f fM CO : Addr} {fd fdM : FuncData} (F : Fun K "read_dim" "read_dim" sReadDim f fd) (Z : RF P w K mg base CO) (Y : Ct2 K mg) (GM : FnOk P w K mg base CX0 3 fM fdM ["reader"] (spRN CO)) (kM : PySem.W.keepIn K (.ref fM) = true) (bM : Binds K fdM ["reader"] []) (gM : mg "read_name" = some (.ref fM)) : FnOk P w K mg base CX0 4 f fd ["reader"] (spRDm CO) := by
  have G4 := Z.G4
  have T := Z.T
  refine F.ok scRDm (fun vs H Q E h => ?_) (fun cdv A outer s H vs Q E hr h => ?_)
  · obtain ⟨r, lo, os, rest, n, d, rfl, _⟩ := h
    rfl
  · obtain ⟨r, lo, os, rest, n, d, rfl, rd, hd, g, q⟩ := h
    have hr2 := hr.mono (j := 2) (by decide)
    obtain ⟨lv, ml, rl⟩ := Y.lift
    refine ⟨_, pss_cons (ps_set (i := 1) scRDm.nd rfl (.inl rfl) (pe_call GM hr (by rfl) gM kM bM .nil pass0 (pa_cons (pv 0) pa_nil)))
      (pss_cons (ps_set (i := 2) scRDm.nd rfl (.inl rfl) (pe_op op_sub (pe_meth0 (pv 0) T.cl Z.m4 G4 hr2 Z.b4 .nil pass0) (pe_glob (by rfl) ml rl)))
      (pss_cons (ps_set (i := 3) scRDm.nd rfl (.inl rfl) (pe_op op_sub (pe_meth0 (pv 0) T.cl Z.m4 G4 hr2 Z.b4 .nil pass0) (pe_glob (by rfl) ml rl)))
      (pss_one (ps_ret (pe_tup (pa_cons (pv 1) (pa_cons (pv 2) (pa_cons (pv 3) (pa_cons (pe_meth0 (pv 0) T.cl Z.m4 G4 hr2 Z.b4 .nil pass0) pa_nil))))))))), ?_⟩
    have hd1 : os.drop n = wn d.n ++ (w4 (d.l + 2147483648) ++ (w4 (d.h + 2147483648) ++ (w4 d.s ++ rest))) := by
      rw [hd]
      unfold eD
      simp only [List.append_assoc]
    have l0 := g.l0
    have lh := g.lh
    have h1 := g.h1
    have s0 := g.s0
    have s1 := g.s1
    refine ⟨_, rfl, r, lo, os, _, n, d.n, rfl, rd, hd1, g.nm, fun H1 x1 rd1 => ?_⟩
    have hd2 := drop_add' hd1
    obtain ⟨dx1, e1⟩ := rd1.i
    refine ⟨_, rfl, r, dx1, _, rfl, e1, rfl, r, lo, os, _, d.l + 2147483648, _, rfl, rd1, hd2, by omega, by omega, fun H2 x2 rd2 => ⟨_, _, rfl, rfl, ?_⟩⟩
    have hd3 := drop_add' hd2
    obtain ⟨dx2, e2⟩ := rd2.i
    refine ⟨_, rfl, r, dx2, _, rfl, e2, rfl, r, lo, os, _, d.h + 2147483648, _, rfl, rd2, hd3, by omega, by omega, fun H3 x3 rd3 => ⟨_, _, rfl, rfl, ?_⟩⟩
    have hd4 := drop_add' hd3
    obtain ⟨dx3, e3⟩ := rd3.i
    refine ⟨_, rfl, _, rfl, _, rfl, _, rfl, r, dx3, _, rfl, e3, rfl, r, lo, os, _, d.s, _, rfl, rd3, hd4, by omega, by omega, fun H4 x4 rd4 => ⟨(by show 4 ≤ sizeLine; decide), fun t nt => ?_⟩⟩
    have x := x1.trans (x2.trans (x3.trans x4))
    refine q _ t (x.same (same_new nt)) ?_ (x.free rd4 nt) ?_
    · rw [show n + (eD d).length = n + (wn d.n).length + 4 + 4 + 4 from by
        unfold eD
        rw [List.length_append, List.length_append, List.length_append]
        show n + ((wn d.n).length + 4 + 4 + 4) = _
        omega]
      exact rd4.same (same_new nt)
    · rw [upd_same]
      show some (HO.tup [V.str d.n, V.int (d.l + 2147483648 - 2147483648), V.int (d.h + 2147483648 - 2147483648), V.int d.s]) = some (HO.tup [V.str d.n, V.int d.l, V.int d.h, V.int d.s])
      rw [show d.l + 2147483648 - 2147483648 = d.l from by omega, show d.h + 2147483648 - 2147483648 = d.h from by omega]
def spRA (CO : Addr) : Sp := fun vs H Q _ => ∃ (r lo : Addr) (os rest : List Int) (n : Nat) (d : T), vs = [.ref r] ∧ RdAt CO H r lo os n ∧ os.drop n = eT d ++ rest ∧ GTs d ∧ ∀ H' t, Ex H H' r → RdAt CO H' r lo os (n + (eT d).length) → H t = none → H' t = some (.tup d.v) → Q (.ref t) H'
theorem scRA : FnScope ["reader", "name"] ["reader"] (defScope sReadAttr) := ⟨rfl, rfl, rfl, by decide +kernel, rfl, by decide +kernel, by decide +kernel⟩
theorem ok_ra {f fM CO : Addr} {fd fdM : FuncData} (F : Fun K "read_attr" "read_attr" sReadAttr f fd) (Z : RF P w K mg base CO) (Y : Ct2 K mg) (GM : FnOk P w K mg base CX0 3 fM fdM ["reader"] (spRN CO)) (kM : PySem.W.keepIn K (.ref fM) = true) (bM : Binds K fdM ["reader"] []) (gM : mg "read_name" = some (.ref fM)) : FnOk P w K mg base CX0 4 f fd ["reader"] (spRA CO) := by
  have GO := Z.GO
  have T := Z.T
  refine F.ok scRA (fun vs H Q E h => ?_) (fun cdv A outer s H vs Q E hr h => ?_)
  · obtain ⟨r, lo, os, rest, n, d, rfl, _⟩ := h
    rfl
  · obtain ⟨r, lo, os, rest, n, d, rfl, rd, hd, g, q⟩ := h
    have hr2 := hr.mono (j := 2) (by decide)
    obtain ⟨kk, mk, hk, _⟩ := Y.kinds
    refine ⟨_, pss_cons (ps_set (i := 1) scRA.nd rfl (.inl rfl) (pe_call GM hr (by rfl) gM kM bM .nil pass0 (pa_cons (pv 0) pa_nil)))
      (pss_one (ps_ret (pe_tup (pa_cons (pv 1) (pa_cons (pe_ix ix_tup (pe_glob (v := .ref kk) (by rfl) mk rfl) (pe_meth (pv 0) T.cl Z.mO GO hr2 Z.bO .nil pass0 (pa_cons (pe_tup (pa_cons pe_int (pa_cons pe_int (pa_cons pe_int pa_nil)))) pa_nil)) (fun _ _ => rfl)) pa_nil))))), ?_⟩
    have hd1 : os.drop n = wn d.n ++ (kix d.k :: rest) := by
      rw [hd]
      unfold eT
      simp only [List.append_assoc]
      rfl
    obtain ⟨j, j1, j2, j3⟩ := kix_at g.k
    refine ⟨_, rfl, r, lo, os, _, n, d.n, rfl, rd, hd1, g.nm, fun H1 x1 rd1 => ?_⟩
    have hd2 := drop_add' hd1
    obtain ⟨dx1, e1⟩ := rd1.i
    refine ⟨_, rfl, _, rfl, r, dx1, _, rfl, e1, rfl, (by show 3 ≤ sizeLine; decide), fun a na => ?_⟩
    have nar : a ≠ r := fun z => by rw [z, e1] at na; cases na
    have hjl : j < 3 := by
      have := (List.getElem?_eq_some_iff.mp j1).1
      exact this
    refine ⟨r, lo, a, os, rest, [0, 1, 2], kix d.k, _, rfl, rd1.same (same_new na), hd2, fun H2 x2 => SqT.of (x2 _ _ upd_same nar), ?_, fun H2 x2 rd2 => ?_⟩
    · rw [j3]
      match j, hjl with
      | 0, _ => exact List.mem_cons_self
      | 1, _ => exact List.mem_cons_of_mem _ List.mem_cons_self
      | 2, _ => exact List.mem_cons_of_mem _ (List.mem_cons_of_mem _ List.mem_cons_self)
    refine ⟨kk, _, _, .str d.k, rfl, rfl, hk _, by rw [j3]; exact atI_nat (by rw [List.getElem?_map, j1]; rfl), (by show 2 ≤ sizeLine; decide), fun t nt => ?_⟩
    have x : Ex H H2 r := x1.trans (Ex.trans (fun a o e _ => same_new (o := .tup [.int 0, .int 1, .int 2]) na a o e) x2)
    refine q _ t (x.same (same_new nt)) ?_ (x.free rd2 nt) (by rw [upd_same]; rfl)
    rw [show n + (eT d).length = n + (wn d.n).length + 1 from by
      unfold eT
      rw [List.length_append]
      show n + ((wn d.n).length + 1) = _
      omega]
    exact rd2.same (same_new nt)
end
end K2

namespace K2
open PySem L2
theorem fm_split {α : Type} (f : α → List Int) {l : List α} {i : Nat} (h : i < l.length) : l.flatMap f = (l.take i).flatMap f ++ (f l[i] ++ (l.drop (i + 1)).flatMap f) := by
  conv => lhs; rw [← List.take_append_drop i l, List.drop_eq_getElem_cons h]
  rw [List.flatMap_append, List.flatMap_cons]
/-- where the i-th begins -/
theorem at_i {α : Type} {f : α → List Int} {l : List α} {os rest : List Int} {n i : Nat} (hd : os.drop n = l.flatMap f ++ rest) (h : i < l.length) : os.drop (n + ((l.take i).flatMap f).length) = f l[i] ++ ((l.drop (i + 1)).flatMap f ++ rest) := by
  refine drop_add' ?_
  rw [hd, fm_split f h]
  simp only [List.append_assoc]
theorem len_i {α : Type} (f : α → List Int) {l : List α} {i n : Nat} (h : i < l.length) : n + ((l.take i).flatMap f).length + (f l[i]).length = n + ((l.take (i + 1)).flatMap f).length := by
  rw [fm_succ f h, List.length_append]
  omega
theorem RowAt.ex {CO : Addr} {H H1 : Hp} {r lo : Addr} {os : List Int} {n : Nat} {t : List V} {x : V} (h : RowAt H t x) (e : Ex H H1 r) (rd : RdAt CO H r lo os n) : RowAt H1 t x := by
  obtain ⟨a, e1, e2⟩ := h
  obtain ⟨dx, e3⟩ := rd.i
  exact ⟨a, e1, e _ _ e2 (ne_of e2 e3 (by intro z; cases z))⟩
section
variable {P : Program} {w : World} {K : PySem.W.Frag} {mg : Str → Option Value} {base : Heap}
def spShI (C : Addr) : Sp := fun vs H Q _ => ∃ (x dx : Addr) (u v : V), vs = [.ref x, u, v] ∧ H x = some (.ins C dx []) ∧ ∀ H', Ex H H' x → H' x = some (.ins C dx [("dims", u), ("attrs", v)]) → Q .non H'
theorem scShI : FnScope ["self", "dims", "attrs"] ["self", "dims", "attrs"] (defScope sShInit) := ⟨rfl, rfl, rfl, by decide +kernel, rfl, by decide +kernel, by decide +kernel⟩
theorem ok_shI {f C : Addr} {fd : FuncData} (F : Fun K "__init__" "Shape.__init__" sShInit f fd) (S : KC K C f SHf) : FnOk P w K mg base CX0 1 f fd ["self", "dims", "attrs"] (spShI C) := by
  refine F.ok scShI (fun vs H Q E h => ?_) (fun cdv A outer s H vs Q E hr h => ?_)
  · obtain ⟨x, dx, u, v, rfl, _⟩ := h
    rfl
  · obtain ⟨x, dx, u, v, rfl, hx, q⟩ := h
    refine ⟨_, pss_cons (ps_fld (pv 0) (pv 1) rfl) (pss_one (ps_fld (pv 0) (pv 2) rfl)), ?_⟩
    refine ⟨_, rfl, _, rfl, x, C, dx, [], rfl, hx, S.cl, S.na _ (by decide +kernel), (by decide), ?_⟩
    exact ⟨_, rfl, _, rfl, x, C, dx, [("dims", u)], rfl, upd_same, S.cl, S.na _ (by decide +kernel), (by show 1 < 1000; decide), q _ (fun a o e n => by rw [upd_ne n, upd_ne n]; exact e) upd_same⟩
def spRS (CO C : Addr) : Sp := fun vs H Q _ => ∃ (r lo : Addr) (os rest : List Int) (n : Nat) (ds : List D) (ts : List T), vs = [.ref r] ∧ RdAt CO H r lo os n ∧ os.drop n = eSh ds ts ++ rest ∧ GSh ds ts ∧
  ∀ H' v, Ex H H' r → RdAt CO H' r lo os (n + (eSh ds ts).length) → ShAt H' C v ds ts → Q v H'
theorem scRS : FnScope ["reader", "first", "dims", "attrs", "shape", "_"] ["reader"] (defScope sReadShape) := ⟨rfl, rfl, rfl, by decide +kernel, rfl, by decide +kernel, by decide +kernel⟩
theorem ok_rs {f fI fM fA fK CO C : Addr} {fd fdI fdM fdA fdK : FuncData} (F : Fun K "read_shape" "read_shape" sReadShape f fd) (M : Nm mg) (Z : RF P w K mg base CO) (S : KC K C fI SHf) (GI : FnOk P w K mg base CX0 1 fI fdI ["self", "dims", "attrs"] (spShI C)) (bI : Binds K fdI ["self", "dims", "attrs"] []) (gC : mg "Shape" = some (.ref C))
    (GM : FnOk P w K mg base CX0 4 fM fdM ["reader"] (spRDm CO)) (kM : PySem.W.keepIn K (.ref fM) = true) (bM : Binds K fdM ["reader"] []) (gM : mg "read_dim" = some (.ref fM))
    (GA : FnOk P w K mg base CX0 4 fA fdA ["reader"] (spRA CO)) (kA : PySem.W.keepIn K (.ref fA) = true) (bA : Binds K fdA ["reader"] []) (gA : mg "read_attr" = some (.ref fA))
    (GK : FnOk P w K mg base CX0 3 fK fdK ["shape"] (spCheck C)) (kK : PySem.W.keepIn K (.ref fK) = true) (bK : Binds K fdK ["shape"] []) (gK : mg "check_shape" = some (.ref fK)) : FnOk P w K mg base CX0 5 f fd ["reader"] (spRS CO C) := by
  have GN := Z.GN
  have T := Z.T
  refine F.ok scRS (fun vs H Q E h => ?_) (fun cdv A outer s H vs Q E hr h => ?_)
  · obtain ⟨r, lo, os, rest, n, ds, ts, rfl, _⟩ := h
    rfl
  · obtain ⟨r, lo, os, rest, n, ds, ts, rfl, rd, hd, g, q⟩ := h
    have hr1 := hr.mono (j := 1) (by decide)
    have hr2 := hr.mono (j := 2) (by decide)
    have hr3 := hr.mono (j := 3) (by decide)
    refine ⟨_, pss_cons (ps_set (i := 1) scRS.nd rfl (.inl rfl) (pe_fld (pv 0) rfl))
      (Evl.pss_cut (ps_setLc (i := 2) (own := [("_", 5)]) (g := gName 5) (tt := tYes) rfl scRS.nd rfl rfl (sw_true rfl rfl rfl (by decide +kernel)) (pi_range1 (by rfl) M.range (pa_cons (pe_ix ix_list (pe_meth (pv 0) T.cl Z.mN GN hr1 Z.bN .nil pass0 (pa_cons pe_int pa_nil)) pe_int (fun _ _ => rfl)) pa_nil))
          (blkOk_by (N := ["reader", "first", "dims", "attrs", "shape", "_"]) (sc := defScope sReadShape) (by decide +kernel)) (fun _ _ _ _ _ => pg_name (i := 5) scRS.nd rfl (Or.inl rfl)) (fun _ _ _ _ _ => pts_nil) (fun _ _ _ _ _ => pe_call GM hr (by rfl) gM kM bM .nil pass0 (pa_cons (pv 0) pa_nil)))
      (Evl.pss_cut (ps_setLc (i := 3) (own := [("_", 5)]) (g := gName 5) (tt := tYes) rfl scRS.nd rfl rfl (sw_true rfl rfl rfl (by decide +kernel)) (pi_range1 (by rfl) M.range (pa_cons (pe_ix ix_list (pe_meth (pv 0) T.cl Z.mN GN hr1 Z.bN .nil pass0 (pa_cons pe_int pa_nil)) pe_int (fun _ _ => rfl)) pa_nil))
          (blkOk_by (N := ["reader", "first", "dims", "attrs", "shape", "_"]) (sc := defScope sReadShape) (by decide +kernel)) (fun _ _ _ _ _ => pg_name (i := 5) scRS.nd rfl (Or.inl rfl)) (fun _ _ _ _ _ => pts_nil) (fun _ _ _ _ _ => pe_call GA hr (by rfl) gA kA bA .nil pass0 (pa_cons (pv 0) pa_nil)))
      (pss_cons (ps_set (i := 4) scRS.nd rfl (.inl rfl) (pe_make S.mkC GI hr2 (by rfl) gC bI .nil pass0 (pa_cons (pe_callTy call_tuple_of (by rfl) M.tuple (by decide +kernel) (pa_cons (pv 2) pa_nil)) (pa_cons (pe_callTy call_tuple_of (by rfl) M.tuple (by decide +kernel) (pa_cons (pv 3) pa_nil)) pa_nil))))
      (pss_cons (ps_try_thru0 (pss_one (ps_expr (pe_call GK hr3 (by rfl) gK kK bK .nil pass0 (pa_cons (pv 4) pa_nil)))))
      (pss_one (ps_ret (pv 4))))))), ?_⟩
    obtain ⟨dx, e⟩ := rd.i
    have g1 := g.d0
    have g2 := g.t0
    have hd1 : os.drop n = [(ds.length : Int)] ++ (ds.flatMap eD ++ ([(ts.length : Int)] ++ (ts.flatMap eT ++ rest))) := by
      rw [hd]
      unfold eSh
      simp only [List.append_assoc]
    have hd2 := drop_add' hd1
    have hd3 := drop_add' hd2
    have hd4 := drop_add' hd3
    have hdA : os.drop (n + [(ds.length : Int)].length + (ds.flatMap eD).length) = [(ts.length : Int)] ++ (ts.flatMap eT ++ rest) := hd3
    refine ⟨_, rfl, r, CO, dx, _, .int (n : Int), rfl, e, T.cl, T.na _ (by decide +kernel), rfl, ?_⟩
    refine ⟨fun σ H2 => ∃ p xs, σ = [some (.ref r), some (.int (n : Int)), some (.ref p), none, none, none] ∧ Ex H H2 r ∧ RdAt CO H2 r lo os (n + [(ds.length : Int)].length + (ds.flatMap eD).length) ∧ p ≠ r ∧ H2 p = some (.lst xs) ∧ All (fun y d => RowAt H2 d.v y) xs ds, ?_, ?_⟩
    · refine ⟨_, rfl, r, dx, _, rfl, e, rfl, r, lo, os, [(ds.length : Int)], _, n, rfl, rd, hd1, fun H1 p1 x1 rd1 n1 e1 => ?_⟩
      refine ⟨p1, _, 0, .int (ds.length : Int), rfl, rfl, .inl (.inl e1), rfl, ?_⟩
      refine ⟨(ds.length : Int), rfl, by omega, by omega, fun D nD => ?_⟩
      have nDr : D ≠ r := fun z => by obtain ⟨dx1, z1⟩ := rd1.i; rw [z, z1] at nD; cases nD
      have nDH : H D = none := x1.free rd1 nD
      refine lc_range (lo := 0) (n := (ds.length : Int).toNat) (fun i H2 => Ex H H2 r ∧ RdAt CO H2 r lo os (n + [(ds.length : Int)].length + ((ds.take i).flatMap eD).length) ∧ ∃ xs, H2 D = some (.lst xs) ∧ All (fun y d => RowAt H2 d.v y) xs (ds.take i)) ?_ ?_ ?_
      · exact ⟨x1.same (same_new nD), rd1.same (same_new nD), [], upd_same, All.nil⟩
      · rintro i H2 hi ⟨x2, rd2, xs, eD2, al⟩
        have hi2 : i < ds.length := by omega
        refine ⟨rfl, ?_⟩
        dsimp only [tYes]
        rw [if_pos rfl]
        refine ⟨_, rfl, r, lo, os, _, _, ds[i], rfl, rd2, at_i hd2 hi2, g.d _ (List.getElem_mem hi2), fun H3 t x3 rd3 nt et => ?_⟩
        rw [len_i eD hi2] at rd3
        have eD3 := x3 _ _ eD2 nDr
        have xl := al.1
        rw [List.length_take] at xl
        have ntD : t ≠ D := fun z => by rw [z, eD2] at nt; cases nt
        refine ⟨xs, eD3, small1000 (by omega), fun a o ea na => ?_, ?_, xs ++ [.ref t], upd_same, ?_⟩
        · rw [upd_ne (fun z => by rw [z, nDH] at ea; cases ea)]
          exact x3 _ _ (x2 _ _ ea na) na
        · obtain ⟨dx3, z3⟩ := rd3.i
          exact ⟨⟨dx3, by rw [upd_ne nDr.symm]; exact z3⟩, by rw [upd_ne (ne_of_none rd.o nDH)]; exact rd3.o, rd3.le⟩
        · rw [List.take_add_one, List.getElem?_eq_getElem hi2]
          refine All.push (al.imp fun y d ⟨b, b1, b2⟩ => ⟨b, b1, ?_⟩) ⟨t, rfl, by rw [upd_ne ntD]; exact et⟩
          obtain ⟨dx2, z2⟩ := rd2.i
          rw [upd_ne (ne_of b2 eD2 (by intro z; cases z))]
          exact x3 _ _ b2 (ne_of b2 z2 (by intro z; cases z))
      · rintro H2 ⟨x2, rd2, xs, eD2, al⟩
        rw [show (ds.length : Int).toNat = ds.length from by omega, List.take_length] at rd2 al
        exact ⟨D, xs, rfl, x2, rd2, nDr, eD2, al⟩
    rintro σ H2 ⟨p, xs, rfl, x2, rd2, npr, ep, al⟩
    obtain ⟨dx2, e2⟩ := rd2.i
    refine ⟨fun σ H3 => ∃ p2 ys, σ = [some (.ref r), some (.int (n : Int)), some (.ref p), some (.ref p2), none, none] ∧ Ex H2 H3 r ∧ RdAt CO H3 r lo os (n + [(ds.length : Int)].length + (ds.flatMap eD).length + [(ts.length : Int)].length + (ts.flatMap eT).length) ∧ H3 p2 = some (.lst ys) ∧ All (fun y d => RowAt H3 d.v y) ys ts, ?_, ?_⟩
    · refine ⟨_, rfl, r, dx2, _, rfl, e2, rfl, r, lo, os, [(ts.length : Int)], _, _, rfl, rd2, hdA, fun H1 p1 x1 rd1 n1 e1 => ?_⟩
      refine ⟨p1, _, 0, .int (ts.length : Int), rfl, rfl, .inl (.inl e1), rfl, ?_⟩
      refine ⟨(ts.length : Int), rfl, by omega, by omega, fun D nD => ?_⟩
      have nDr : D ≠ r := fun z => by obtain ⟨dx1, z1⟩ := rd1.i; rw [z, z1] at nD; cases nD
      have nDH : H2 D = none := x1.free rd1 nD
      refine lc_range (lo := 0) (n := (ts.length : Int).toNat) (fun i H3 => Ex H2 H3 r ∧ RdAt CO H3 r lo os (n + [(ds.length : Int)].length + (ds.flatMap eD).length + [(ts.length : Int)].length + ((ts.take i).flatMap eT).length) ∧ ∃ xs, H3 D = some (.lst xs) ∧ All (fun y d => RowAt H3 d.v y) xs (ts.take i)) ?_ ?_ ?_
      · exact ⟨x1.same (same_new nD), rd1.same (same_new nD), [], upd_same, All.nil⟩
      · rintro i H3 hi ⟨x3, rd3, ys, eD3, al3⟩
        have hi2 : i < ts.length := by omega
        refine ⟨rfl, ?_⟩
        dsimp only [tYes]
        rw [if_pos rfl]
        refine ⟨_, rfl, r, lo, os, _, _, ts[i], rfl, rd3, at_i hd4 hi2, g.t _ (List.getElem_mem hi2), fun H4 t x4 rd4 nt et => ?_⟩
        rw [len_i eT hi2] at rd4
        have eD4 := x4 _ _ eD3 nDr
        have xl := al3.1
        rw [List.length_take] at xl
        have ntD : t ≠ D := fun z => by rw [z, eD3] at nt; cases nt
        refine ⟨ys, eD4, small1000 (by omega), fun a o ea na => ?_, ?_, ys ++ [.ref t], upd_same, ?_⟩
        · rw [upd_ne (fun z => by rw [z, nDH] at ea; cases ea)]
          exact x4 _ _ (x3 _ _ ea na) na
        · obtain ⟨dx4, z4⟩ := rd4.i
          exact ⟨⟨dx4, by rw [upd_ne nDr.symm]; exact z4⟩, by rw [upd_ne (ne_of_none rd2.o nDH)]; exact rd4.o, rd4.le⟩
        · rw [List.take_add_one, List.getElem?_eq_getElem hi2]
          refine All.push (al3.imp fun y d ⟨b, b1, b2⟩ => ⟨b, b1, ?_⟩) ⟨t, rfl, by rw [upd_ne ntD]; exact et⟩
          obtain ⟨dx3, z3⟩ := rd3.i
          rw [upd_ne (ne_of b2 eD3 (by intro z; cases z))]
          exact x4 _ _ b2 (ne_of b2 z3 (by intro z; cases z))
      · rintro H3 ⟨x3, rd3, ys, eD3, al3⟩
        rw [show (ts.length : Int).toNat = ts.length from by omega, List.take_length] at rd3 al3
        exact ⟨D, ys, rfl, x3, rd3, eD3, al3⟩
    rintro σ H3 ⟨p2, ys, rfl, x3, rd3, ep2, al3⟩
    have ep3 := x3 _ _ ep npr
    have alD : All (fun y d => RowAt H3 d.v y) xs ds := al.imp fun y d h => h.ex x3 rd2
    refine ⟨_, rfl, p, xs, rfl, .inl ⟨.inl (.inl ep3), fun t1 m1 => ?_⟩⟩
    refine ⟨_, rfl, p2, ys, rfl, .inl ⟨.inl (.inl (same_new m1 _ _ ep2)), fun t2 m2 => ?_⟩⟩
    intro a dxa na ndxa nae
    refine ⟨a, dxa, .ref t1, .ref t2, rfl, upd_same, fun H4 x4 e4 => ⟨rfl, ?_⟩⟩
    have s34 : Same H3 H4 := (same_new m1).trans ((same_new m2).trans (mk_same na ndxa x4))
    have t1e : H4 t1 = some (.tup xs) := mk_same na ndxa x4 _ _ (same_new m2 _ _ upd_same)
    have t2e : H4 t2 = some (.tup ys) := mk_same na ndxa x4 _ _ upd_same
    have sh4 : ShAt H4 C (.ref a) ds ts := ⟨a, dxa, .ref t1, .ref t2, rfl, e4, ⟨t1, xs, rfl, t1e, alD.imp fun y d h => h.same s34⟩, ⟨t2, ys, rfl, t2e, al3.imp fun y d h => h.same s34⟩⟩
    refine ⟨_, rfl, .ref a, ds, ts, rfl, sh4, g, fun H5 s5 => ?_⟩
    have el : n + (eSh ds ts).length = n + [(ds.length : Int)].length + (ds.flatMap eD).length + [(ts.length : Int)].length + (ts.flatMap eT).length := by
      unfold eSh
      rw [List.length_append, List.length_append, List.length_append]
      omega
    refine ⟨_, rfl, q H5 _ ((x2.trans x3).same (s34.trans s5)) ?_ (sh4.same s5)⟩
    rw [el]
    exact rd3.same (s34.trans s5)
end
end K2

namespace K2
open PySem L2
def DrD (d : D) : Prop := -4 ≤ d.l ∧ d.l ≤ 4 ∧ d.l ≤ d.h ∧ d.h ≤ d.l + 8 ∧ 1 ≤ d.s ∧ d.s ≤ 4
structure DrSh (ds : List D) (ts : List T) : Prop where
  i : ∃ i, 1 ≤ i ∧ i ≤ 2 ∧ ds.map (·.n) = (["x", "y"] : List Str).take i
  j : ∃ j, 1 ≤ j ∧ j ≤ 2 ∧ ts.map (·.n) = (["v", "w"] : List Str).take j
  d : ∀ d ∈ ds, DrD d
  t : ∀ t ∈ ts, t.k ∈ KS
theorem xy_at {i : Nat} (h : i < 2) : ∃ n : Str, atI [V.str "x", .str "y"] (i : Int) = some (.str n) ∧ (["x", "y"] : List Str).take (i + 1) = (["x", "y"] : List Str).take i ++ [n] := by
  match i, h with
  | 0, _ => exact ⟨"x", rfl, rfl⟩
  | 1, _ => exact ⟨"y", rfl, rfl⟩
theorem vw_at {i : Nat} (h : i < 2) : ∃ n : Str, atI [V.str "v", .str "w"] (i : Int) = some (.str n) ∧ (["v", "w"] : List Str).take (i + 1) = (["v", "w"] : List Str).take i ++ [n] := by
  match i, h with
  | 0, _ => exact ⟨"v", rfl, rfl⟩
  | 1, _ => exact ⟨"w", rfl, rfl⟩
theorem ks_at {v : Int} (h0 : 0 ≤ v) (h1 : v < 3) : ∃ n : Str, n ∈ KS ∧ atI [V.str "int", .str "flag", .str "text"] v = some (.str n) := by
  obtain ⟨k, rfl⟩ : ∃ k : Nat, v = (k : Int) := ⟨v.toNat, by omega⟩
  match k, h1 with
  | 0, _ => exact ⟨"int", by decide +kernel, rfl⟩
  | 1, _ => exact ⟨"flag", by decide +kernel, rfl⟩
  | 2, _ => exact ⟨"text", by decide +kernel, rfl⟩
  | n + 3, h => exact absurd h (by omega)
/-- the state is a list of two numbers, and the script is read the same -/
theorem Ex.sq {K : PySem.W.Frag} {H H1 : Hp} {S scr : Addr} {xs : List V} (q : ∀ H', Ex H H' S → SqL K H' scr xs) (x : Ex H H1 S) : ∀ H', Ex H1 H' S → SqL K H' scr xs := fun H' y => q H' (x.trans y)
section
variable {P : Program} {w : World} {K : PySem.W.Frag} {mg : Str → Option Value} {base : Heap}
def spLSh (K : PySem.W.Frag) (C : Addr) : Sp := fun vs H Q _ => ∃ (S scr : Addr) (ns : List Int), vs = [.ref S, .ref scr] ∧ SAt H S ∧ (∀ H', Ex H H' S → SqL K H' scr (ns.map V.int)) ∧
  ∀ H' v ds ts, Ex H H' S → SAt H' S → ShAt H' C v ds ts → DrSh ds ts → Q v H'
theorem scLSh : FnScope ["state", "script", "dims", "k", "low", "attrs"] ["state", "script"] (defScope sShape) := ⟨rfl, rfl, rfl, by decide +kernel, rfl, by decide +kernel, by decide +kernel⟩
theorem ok_lsh {f fD fI C : Addr} {fd fdD fdI : FuncData} (F : Fun K "_law_shape" "_law_shape" sShape f fd) (M : Nm mg) (S' : KC K C fI SHf) (GI : FnOk P w K mg base CX0 1 fI fdI ["self", "dims", "attrs"] (spShI C)) (bI : Binds K fdI ["self", "dims", "attrs"] []) (gC : mg "Shape" = some (.ref C))
    (GD : FnOk P w K mg base CX0 1 fD fdD ["state", "script", "size"] (spDraw K)) (kD : PySem.W.keepIn K (.ref fD) = true) (bD : Binds K fdD ["state", "script", "size"] []) (gD : mg "_law_draw" = some (.ref fD)) : FnOk P w K mg base CX0 3 f fd ["state", "script"] (spLSh K C) := by
  refine F.ok scLSh (fun vs H Q E h => ?_) (fun cdv A outer s H vs Q E hr h => ?_)
  · obtain ⟨S, scr, ns, rfl, _⟩ := h
    rfl
  · obtain ⟨S, scr, ns, rfl, hS, sq, q⟩ := h
    have hr1 := hr.mono (j := 1) (by decide)
    refine ⟨_, pss_cons (ps_set (i := 2) scLSh.nd rfl (.inl rfl) (pe_lst pa_nil))
      (Evl.pss_cut (ps_for PassesOwn.never rfl (pi_range1 (by rfl) M.range (pa_cons (pe_op op_add pe_int (pe_call GD hr1 (by rfl) gD kD bD .nil pass0 (pa_cons (pv 0) (pa_cons (pv 1) (pa_cons pe_int pa_nil))))) pa_nil)) (pg_name (i := 3) scLSh.nd rfl (.inl rfl))
        (pss_cons (ps_set (i := 4) scLSh.nd rfl (.inl rfl) (pe_op op_sub (pe_call GD hr1 (by rfl) gD kD bD .nil pass0 (pa_cons (pv 0) (pa_cons (pv 1) (pa_cons pe_int pa_nil)))) pe_int))
        (pss_one (ps_expr (pe_bm PySem.F.plainAttrs_list PySem.F.slot_list_append PySem.F.type_list_append mt_append (pv 2) (pa_cons (pe_tup (pa_cons (pe_ix ix_list (pe_lst (pa_cons pe_str (pa_cons pe_str pa_nil))) (pv 3) (fun _ _ => rfl)) (pa_cons (pv 4)
          (pa_cons (pe_op op_add (pv 4) (pe_call GD hr1 (by rfl) gD kD bD .nil pass0 (pa_cons (pv 0) (pa_cons (pv 1) (pa_cons pe_int pa_nil))))) (pa_cons (pe_op op_add pe_int (pe_call GD hr1 (by rfl) gD kD bD .nil pass0 (pa_cons (pv 0) (pa_cons (pv 1) (pa_cons pe_int pa_nil))))) pa_nil))))) pa_nil))))))
      (pss_cons (ps_set (i := 5) scLSh.nd rfl (.inl rfl) (pe_lst pa_nil))
      (Evl.pss_cut (ps_for PassesOwn.never rfl (pi_range1 (by rfl) M.range (pa_cons (pe_op op_add pe_int (pe_call GD hr1 (by rfl) gD kD bD .nil pass0 (pa_cons (pv 0) (pa_cons (pv 1) (pa_cons pe_int pa_nil))))) pa_nil)) (pg_name (i := 3) scLSh.nd rfl (.inl rfl))
        (pss_one (ps_expr (pe_bm PySem.F.plainAttrs_list PySem.F.slot_list_append PySem.F.type_list_append mt_append (pv 5) (pa_cons (pe_tup (pa_cons (pe_ix ix_list (pe_lst (pa_cons pe_str (pa_cons pe_str pa_nil))) (pv 3) (fun _ _ => rfl))
          (pa_cons (pe_ix ix_list (pe_lst (pa_cons pe_str (pa_cons pe_str (pa_cons pe_str pa_nil)))) (pe_call GD hr1 (by rfl) gD kD bD .nil pass0 (pa_cons (pv 0) (pa_cons (pv 1) (pa_cons pe_int pa_nil)))) (fun _ _ => rfl)) pa_nil))) pa_nil)))))
      (pss_one (ps_ret (pe_make S'.mkC GI hr (by rfl) gC bI .nil pass0 (pa_cons (pe_callTy call_tuple_of (by rfl) M.tuple (by decide +kernel) (pa_cons (pv 2) pa_nil)) (pa_cons (pe_callTy call_tuple_of (by rfl) M.tuple (by decide +kernel) (pa_cons (pv 5) pa_nil)) pa_nil)))))))), ?_⟩
    refine ⟨Nat.zero_le _, fun p np => ?_⟩
    have hSn : ∀ {H' : Hp} {a : Addr}, SAt H' S → H' a = none → a ≠ S := fun ⟨x, y, e⟩ n z => by rw [z, e] at n; cases n
    have x0 : Ex H (upd H p (.lst [])) S := fun a o e _ => same_new np a o e
    have npS := hSn hS np
    have st0 : SAt (upd H p (.lst [])) S := by
      obtain ⟨x, y, e⟩ := hS
      exact ⟨x, y, same_new np _ _ e⟩
    refine ⟨fun σ H2 => ∃ y3 y4 xs ds, σ = [some (.ref S), some (.ref scr), some (.ref p), y3, y4, none] ∧ Ex H H2 S ∧ SAt H2 S ∧ H2 p = some (.lst xs) ∧ All (fun y d => RowAt H2 d.v y) xs ds ∧ (∀ d ∈ ds, DrD d) ∧ ∃ i, 1 ≤ i ∧ i ≤ 2 ∧ ds.map (·.n) = (["x", "y"] : List Str).take i, ?_, ?_⟩
    · refine ⟨_, rfl, _, rfl, S, scr, 2, ns, rfl, by decide, by decide, st0, sq _ x0, fun H1 v k1 t1 v0 v1 => ⟨_, _, rfl, rfl, ?_⟩⟩
      refine ⟨_, rfl, by omega, by omega, for_range (lo := 0) (n := (1 + v).toNat) (fun i σ H2 => ∃ y3 y4 xs ds, σ = [some (.ref S), some (.ref scr), some (.ref p), y3, y4, none] ∧ Ex H H2 S ∧ SAt H2 S ∧ H2 p = some (.lst xs) ∧ All (fun y d => RowAt H2 d.v y) xs ds ∧ (∀ d ∈ ds, DrD d) ∧ ds.map (·.n) = (["x", "y"] : List Str).take i) ?_ ?_ ?_⟩
      · exact ⟨none, none, [], [], rfl, x0.trans k1, t1, k1 _ _ upd_same npS, All.nil, fun d h => absurd h List.not_mem_nil, rfl⟩
      · rintro i σ H2 hi ⟨y3, y4, xs, ds, rfl, x2, t2, ep, al, dr, hn⟩
        have hi2 : i < 2 := by omega
        obtain ⟨n, n1, n2⟩ := xy_at hi2
        refine ⟨_, rfl, _, rfl, S, scr, 9, ns, rfl, by decide, by decide, t2, sq _ x2, fun H3 v3 k3 t3 a0 a1 => ⟨_, _, rfl, rfl, ?_⟩⟩
        have e3 := k3 _ _ ep npS
        refine ⟨_, rfl, .inl ⟨rfl, _, .inl (.inl e3)⟩, (by show 2 ≤ sizeLine; decide), fun L nL => ?_⟩
        have t3' : SAt (upd H3 L (.lst [.str "x", .str "y"])) S := by
          obtain ⟨x, y, e⟩ := t3
          exact ⟨x, y, same_new nL _ _ e⟩
        have x3 : Ex H2 (upd H3 L (.lst [.str "x", .str "y"])) S := fun a o e n => same_new nL _ _ (k3 _ _ e n)
        refine ⟨_, rfl, L, _, _, .str n, rfl, rfl, .inl (.inl upd_same), by rw [show (0 : Int) + (i : Int) = (i : Int) from by omega]; exact n1, _, rfl, _, rfl, _, rfl, _, rfl, S, scr, 9, ns, rfl, by decide, by decide, t3', sq _ (x2.trans x3), fun H4 v4 k4 t4 b0 b1 => ⟨_, _, rfl, rfl, ?_⟩⟩
        refine ⟨_, rfl, _, rfl, S, scr, 4, ns, rfl, by decide, by decide, t4, sq _ (x2.trans (x3.trans k4)), fun H5 v5 k5 t5 c0 c1 => ⟨_, _, rfl, rfl, (by show 4 ≤ sizeLine; decide), fun t nt => ?_⟩⟩
        have x5 : Ex H2 H5 S := x3.trans (Ex.trans k4 k5)
        have e5 := x5 _ _ ep npS
        have xl := al.1
        have dl : ds.length ≤ 2 := by
          have := congrArg List.length hn
          rw [List.length_map, List.length_take] at this
          show _ ≤ (["x", "y"] : List Str).length
          omega
        refine ⟨p, xs, .ref t, rfl, rfl, same_new nt _ _ e5, small1000 (by omega), _, _, xs ++ [.ref t], ds ++ [⟨n, v3 - 4, v3 - 4 + v4, 1 + v5⟩], rfl, fun a o e m => ?_, ?_, upd_same, ?_, fun d hd => ?_, ?_⟩
        · rw [upd_ne (fun z => by rw [z, np] at e; cases e)]
          exact same_new nt _ _ (x5 _ _ (x2 _ _ e m) m)
        · obtain ⟨x, y, e⟩ := t5
          exact ⟨x, y, by rw [upd_ne npS.symm]; exact same_new nt _ _ e⟩
        · have ntp : t ≠ p := fun z => by rw [z, e5] at nt; cases nt
          refine All.push (al.imp fun y d ⟨b, b1, b2⟩ => ⟨b, b1, ?_⟩) ⟨t, rfl, by rw [upd_ne ntp, upd_same]; rfl⟩
          rw [upd_ne (ne_of b2 ep (by intro z; cases z))]
          obtain ⟨x, y, eS⟩ := t2
          exact same_new nt _ _ (x5 _ _ b2 (ne_of b2 eS (by intro z; cases z)))
        · rcases List.mem_append.mp hd with z | z
          · exact dr d z
          · rw [List.mem_singleton.mp z]
            unfold DrD
            exact ⟨by show -4 ≤ v3 - 4; omega, by show v3 - 4 ≤ 4; omega, by show v3 - 4 ≤ v3 - 4 + v4; omega, by show v3 - 4 + v4 ≤ v3 - 4 + 8; omega, by show 1 ≤ 1 + v5; omega, by show 1 + v5 ≤ 4; omega⟩
        · rw [List.map_append, hn, n2]
          rfl
      · rintro σ H2 ⟨y3, y4, xs, ds, rfl, x2, t2, ep, al, dr, hn⟩
        exact ⟨_, _, xs, ds, rfl, x2, t2, ep, al, dr, (1 + v).toNat, by omega, by omega, hn⟩
    rintro σ H2 ⟨y3, y4, xs, ds, rfl, x2, t2, ep, al, dr, hi⟩
    refine ⟨Nat.zero_le _, fun p2 np2 => ?_⟩
    have p2S := hSn t2 np2
    have p2p : p2 ≠ p := fun z => by rw [z, ep] at np2; cases np2
    have x6 : Ex H2 (upd H2 p2 (.lst [])) S := fun a o e _ => same_new np2 a o e
    have t6 : SAt (upd H2 p2 (.lst [])) S := by
      obtain ⟨x, y, e⟩ := t2
      exact ⟨x, y, same_new np2 _ _ e⟩
    have np2H : H p2 = none := by
      cases e : H p2 with
      | none => rfl
      | some o =>
        have := x2 p2 o e p2S
        rw [np2] at this
        cases this
    refine ⟨fun σ H3 => ∃ (y3 : Option V) (ys : List V) (ts : List T), σ = [some (.ref S), some (.ref scr), some (.ref p), y3, y4, some (.ref p2)] ∧ Ex H2 H3 S ∧ SAt H3 S ∧ H3 p2 = some (.lst ys) ∧ All (fun y d => RowAt H3 d.v y) ys ts ∧ (∀ t ∈ ts, t.k ∈ KS) ∧ ∃ j, 1 ≤ j ∧ j ≤ 2 ∧ ts.map (·.n) = (["v", "w"] : List Str).take j, ?_, ?_⟩
    · refine ⟨_, rfl, _, rfl, S, scr, 2, ns, rfl, by decide, by decide, t6, sq _ (x2.trans x6), fun H1 v k1 t1 v0 v1 => ⟨_, _, rfl, rfl, ?_⟩⟩
      refine ⟨_, rfl, by omega, by omega, for_range (lo := 0) (n := (1 + v).toNat) (fun i σ H3 => ∃ (y3 : Option V) (ys : List V) (ts : List T), σ = [some (.ref S), some (.ref scr), some (.ref p), y3, y4, some (.ref p2)] ∧ Ex H2 H3 S ∧ SAt H3 S ∧ H3 p2 = some (.lst ys) ∧ All (fun y d => RowAt H3 d.v y) ys ts ∧ (∀ t ∈ ts, t.k ∈ KS) ∧ ts.map (·.n) = (["v", "w"] : List Str).take i) ?_ ?_ ?_⟩
      · exact ⟨_, [], [], rfl, x6.trans k1, t1, k1 _ _ upd_same p2S, All.nil, fun d h => absurd h List.not_mem_nil, rfl⟩
      · rintro i σ H3 hi2' ⟨y3, ys, ts, rfl, x3, t3, ep3, al3, dr3, hn⟩
        have hi2 : i < 2 := by omega
        obtain ⟨n, n1, n2⟩ := vw_at hi2
        refine ⟨_, rfl, .inl ⟨rfl, _, .inl (.inl ep3)⟩, (by show 2 ≤ sizeLine; decide), fun L nL => ?_⟩
        refine ⟨_, rfl, L, _, _, .str n, rfl, rfl, .inl (.inl upd_same), by rw [show (0 : Int) + (i : Int) = (i : Int) from by omega]; exact n1, (by show 3 ≤ sizeLine; decide), fun L2 nL2 => ?_⟩
        have x7 : Ex H3 (upd (upd H3 L (.lst [.str "v", .str "w"])) L2 (.lst [.str "int", .str "flag", .str "text"])) S := fun a o e _ => same_new nL2 _ _ (same_new nL _ _ e)
        have t7 : SAt (upd (upd H3 L (.lst [.str "v", .str "w"])) L2 (.lst [.str "int", .str "flag", .str "text"])) S := by
          obtain ⟨x, y, e⟩ := t3
          exact ⟨x, y, same_new nL2 _ _ (same_new nL _ _ e)⟩
        have nL2S : L2 ≠ S := by
          obtain ⟨x, y, e⟩ := t3
          exact (ne_of_none (same_new nL _ _ e) nL2).symm
        refine ⟨_, rfl, _, rfl, S, scr, 3, ns, rfl, by decide, by decide, t7, sq _ (x2.trans (x3.trans x7)), fun H4 v4 k4 t4 b0 b1 => ?_⟩
        obtain ⟨kd, k0, k1'⟩ := ks_at b0 b1
        refine ⟨L2, _, v4, .str kd, rfl, rfl, .inl (.inl (k4 _ _ upd_same nL2S)), k1', (by show 2 ≤ sizeLine; decide), fun t nt => ?_⟩
        have x5 : Ex H3 H4 S := x7.trans k4
        have e5 := x5 _ _ ep3 p2S
        have xl := al3.1
        have dl : ts.length ≤ 2 := by
          have := congrArg List.length hn
          rw [List.length_map, List.length_take] at this
          show _ ≤ (["v", "w"] : List Str).length
          omega
        refine ⟨p2, ys, .ref t, rfl, rfl, same_new nt _ _ e5, small1000 (by omega), _, ys ++ [.ref t], ts ++ [⟨n, kd⟩], rfl, fun a o e m => ?_, ?_, upd_same, ?_, fun d hd => ?_, ?_⟩
        · rw [upd_ne (fun z => by rw [z, np2] at e; cases e)]
          exact same_new nt _ _ (x5 _ _ (x3 _ _ e m) m)
        · obtain ⟨x, y, e⟩ := t4
          exact ⟨x, y, by rw [upd_ne p2S.symm]; exact same_new nt _ _ e⟩
        · have ntp : t ≠ p2 := fun z => by rw [z, e5] at nt; cases nt
          refine All.push (al3.imp fun y d ⟨b, b1, b2⟩ => ⟨b, b1, ?_⟩) ⟨t, rfl, by rw [upd_ne ntp, upd_same]; rfl⟩
          rw [upd_ne (ne_of b2 ep3 (by intro z; cases z))]
          obtain ⟨x, y, eS⟩ := t3
          exact same_new nt _ _ (x5 _ _ b2 (ne_of b2 eS (by intro z; cases z)))
        · rcases List.mem_append.mp hd with z | z
          · exact dr3 d z
          · rw [List.mem_singleton.mp z]
            exact k0
        · rw [List.map_append, hn, n2]
          rfl
      · rintro σ H3 ⟨y3, ys, ts, rfl, x3, t3, ep3, al3, dr3, hn⟩
        exact ⟨_, ys, ts, rfl, x3, t3, ep3, al3, dr3, (1 + v).toNat, by omega, by omega, hn⟩
    rintro σ H3 ⟨y3, ys, ts, rfl, x3, t3, ep3, al3, dr3, hj⟩
    have epp := x3 _ _ ep npS
    have alD : All (fun y d => RowAt H3 d.v y) xs ds := al.imp fun y d ⟨b, b1, b2⟩ => by
      obtain ⟨x, y', eS⟩ := t2
      exact ⟨b, b1, x3 _ _ b2 (ne_of b2 eS (by intro z; cases z))⟩
    refine ⟨_, rfl, p, xs, rfl, .inl ⟨.inl (.inl epp), fun t1 m1 => ?_⟩⟩
    refine ⟨_, rfl, p2, ys, rfl, .inl ⟨.inl (.inl (same_new m1 _ _ ep3)), fun t2 m2 => ?_⟩⟩
    intro a dxa na ndxa nae
    refine ⟨a, dxa, .ref t1, .ref t2, rfl, upd_same, fun H4 x4 e4 => ⟨rfl, ?_⟩⟩
    have s34 : Same H3 H4 := (same_new m1).trans ((same_new m2).trans (mk_same na ndxa x4))
    have t1e : H4 t1 = some (.tup xs) := mk_same na ndxa x4 _ _ (same_new m2 _ _ upd_same)
    have t2e : H4 t2 = some (.tup ys) := mk_same na ndxa x4 _ _ upd_same
    have st4 : SAt H4 S := by
      obtain ⟨x, y, e⟩ := t3
      exact ⟨x, y, s34 _ _ e⟩
    exact q H4 _ ds ts ((x2.trans x3).same s34) st4 ⟨a, dxa, .ref t1, .ref t2, rfl, e4, ⟨t1, xs, rfl, t1e, alD.imp fun y d h => h.same s34⟩, ⟨t2, ys, rfl, t2e, al3.imp fun y d h => h.same s34⟩⟩ ⟨hi, hj, dr, dr3⟩
end
end K2

namespace K2
open PySem L2
def cntD (d : D) : Nat := ((d.h - d.l) / d.s + 1).toNat
/-- one dimension more -/
def rowS (rs : List (List Int)) (d : D) : List (List Int) := rs.flatMap fun r => (List.range (cntD d)).map fun (i : Nat) => r ++ [(i : Int)]
def rowsF (ds : List D) : List (List Int) := ds.foldl rowS [[]]
def IsAt (H : Hp) (x : V) (r : List Int) : Prop := RowAt H (r.map V.int) x
theorem cnt_le {d : D} (h : DrD d) : cntD d ≤ 9 ∧ (cntD d : Int) = (d.h - d.l) / d.s + 1 := by
  unfold DrD at h
  have h0 : 0 ≤ (d.h - d.l) / d.s := Int.ediv_nonneg (by omega) (by omega)
  have h1 : (d.h - d.l) / d.s ≤ d.h - d.l := by
    refine Int.le_trans (Int.ediv_le_self _ (by omega)) (Int.le_refl _)
  unfold cntD
  omega
theorem rowS_len (rs : List (List Int)) {d : D} (h : DrD d) : (rowS rs d).length ≤ 9 * rs.length := by
  unfold rowS
  induction rs with
  | nil => exact Nat.le_refl _
  | cons r t ih =>
    rw [List.flatMap_cons, List.length_append, List.length_map, List.length_range, List.length_cons]
    have := (cnt_le h).1
    omega
theorem rowsF_len {ds : List D} (h : ∀ d ∈ ds, DrD d) (l : ds.length ≤ 2) (i : Nat) : (rowsF (ds.take i)).length ≤ 81 := by
  match ds, h, l with
  | [], _, _ => rw [List.take_nil]; exact (by decide : (1 : Nat) ≤ 81)
  | [a], h, _ =>
    have h1 := rowS_len [[]] (h a List.mem_cons_self)
    match i with
    | 0 => exact (by decide : (1 : Nat) ≤ 81)
    | k + 1 =>
      show (rowsF (a :: ([] : List D).take k)).length ≤ 81
      rw [List.take_nil]
      exact Nat.le_trans h1 (by decide)
  | [a, b], h, _ =>
    have h1 := rowS_len [[]] (h a List.mem_cons_self)
    have h2 := rowS_len (rowS [[]] a) (h b (List.mem_cons_of_mem _ List.mem_cons_self))
    have h1' : (rowS [[]] a).length ≤ 9 := h1
    match i with
    | 0 => exact (by decide : (1 : Nat) ≤ 81)
    | 1 => exact Nat.le_trans h1 (by decide)
    | k + 2 =>
      show (rowsF (a :: b :: ([] : List D).take k)).length ≤ 81
      rw [List.take_nil]
      show (rowS (rowS [[]] a) b).length ≤ 81
      omega
theorem rowsF_succ {ds : List D} {i : Nat} (h : i < ds.length) : rowsF (ds.take (i + 1)) = rowS (rowsF (ds.take i)) ds[i] := by
  unfold rowsF
  rw [List.take_add_one, List.getElem?_eq_getElem h, List.foldl_append]
  rfl
theorem rowsF_row {ds : List D} : ∀ i, i ≤ ds.length → ∀ r ∈ rowsF (ds.take i), r.length ≤ i
  | 0, _, r, h => by
    rw [List.take_zero] at h
    rw [List.mem_singleton.mp h]
    exact Nat.le_refl _
  | i + 1, hi, r, h => by
    rw [rowsF_succ (Nat.lt_of_succ_le hi)] at h
    unfold rowS at h
    obtain ⟨q, hq, hr⟩ := List.mem_flatMap.mp h
    obtain ⟨k, _, rfl⟩ := List.mem_map.mp hr
    have := rowsF_row i (by omega) q hq
    rw [List.length_append]
    exact Nat.succ_le_succ this
section
variable {P : Program} {w : World} {K : PySem.W.Frag} {mg : Str → Option Value} {base : Heap}
def spLC (C : Addr) : Sp := fun vs H Q _ => ∃ (v : V) (ds : List D) (ts : List T), vs = [v] ∧ ShAt H C v ds ts ∧ (∀ d ∈ ds, DrD d) ∧ ds.length ≤ 2 ∧ ∀ H' p xs, Same H H' → H' p = some (.lst xs) → All (IsAt H') xs (rowsF ds) → Q (.ref p) H'
theorem scLC : FnScope ["shape", "rows", "name", "low", "high", "step", "longer", "row", "index"] ["shape"] (defScope sLChunks) := ⟨rfl, rfl, rfl, by decide +kernel, rfl, by decide +kernel, by decide +kernel⟩
theorem ok_lc' {f fI C : Addr} {fd : FuncData} (F : Fun K "_law_chunks" "_law_chunks" sLChunks f fd) (M : Nm mg) (S : KC K C fI SHf) : FnOk P w K mg base CX0 1 f fd ["shape"] (spLC C) := by
  refine F.ok scLC (fun vs H Q E h => ?_) (fun cdv A outer s H vs Q E hr h => ?_)
  · obtain ⟨v, ds, ts, rfl, _⟩ := h
    rfl
  · obtain ⟨v, ds, ts, rfl, ⟨a, dx, v1, v2, rfl, ha, ⟨td, xs, rfl, htd, had⟩, _⟩, dr, dl, q⟩ := h
    refine ⟨_, pss_cons (ps_set (i := 1) scLC.nd rfl (.inl rfl) (pe_lst (pa_cons (pe_tup pa_nil) pa_nil)))
      (pss_cons (ps_for PassesOwn.never rfl (pi_tup (pe_fld (pv 0) rfl)) (pg_tup (by rfl) (pgs_cons (pg_name (i := 2) scLC.nd rfl (.inl rfl)) (pgs_cons (pg_name (i := 3) scLC.nd rfl (.inl rfl)) (pgs_cons (pg_name (i := 4) scLC.nd rfl (.inl rfl)) (pgs_cons (pg_name (i := 5) scLC.nd rfl (.inl rfl)) pgs_nil)))))
        (pss_cons (ps_set (i := 6) scLC.nd rfl (.inl rfl) (pe_lst pa_nil))
        (Evl.pss_cut (ps_for PassesOwn.never rfl (pi_list (pv 1)) (pg_name (i := 7) scLC.nd rfl (.inl rfl))
          (pss_one (ps_for PassesOwn.never rfl (pi_range1 (by rfl) M.range (pa_cons (pe_op op_add (pe_op op_fdiv (pe_op op_sub (pv 4) (pv 3)) (pv 5)) pe_int) pa_nil)) (pg_name (i := 8) scLC.nd rfl (.inl rfl))
            (pss_one (ps_expr (pe_bm PySem.F.plainAttrs_list PySem.F.slot_list_append PySem.F.type_list_append mt_append (pv 6) (pa_cons (pe_op op_catA (pv 7) (pe_tup (pa_cons (pv 8) pa_nil))) pa_nil)))))))
        (pss_one (ps_set (i := 1) scLC.nd rfl (.inl rfl) (pv 6))))))
      (pss_one (ps_ret (pv 1)))), ?_⟩
    refine ⟨Nat.zero_le _, fun t0 m0 => ⟨(by show 1 ≤ sizeLine; decide), fun p np => ?_⟩⟩
    have s0 : Same H (upd (upd H t0 (.tup [])) p (.lst [.ref t0])) := (same_new m0).trans (same_new np)
    refine ⟨_, rfl, a, C, dx, _, .ref td, rfl, s0 _ _ ha, S.cl, S.na _ (by decide +kernel), rfl, td, rfl, ⟨_, SqT.of (s0 _ _ htd)⟩, for_it (walk_tup (xs := xs)) (fun i σ H2 => ∃ p zs y2 y3 y4 y5 y6 y7 y8, σ = [some (.ref a), some (.ref p), y2, y3, y4, y5, y6, y7, y8] ∧ Same H H2 ∧ H2 p = some (.lst zs) ∧ All (IsAt H2) zs (rowsF (ds.take i))) ?_ ?_ ?_ ?_⟩
    · refine ⟨p, [.ref t0], none, none, none, none, none, none, none, rfl, s0, upd_same, ?_⟩
      have := (All.nil (R := IsAt (upd (upd H t0 (.tup [])) p (.lst [.ref t0])))).push (x := .ref t0) (a := []) ⟨t0, rfl, same_new np _ _ upd_same⟩
      exact this
    · rintro i σ H2 hi ⟨p, zs, y2, y3, y4, y5, y6, y7, y8, rfl, s2, _⟩
      exact SqT.of (s2 _ _ htd)
    · rintro i x σ H2 H' hi ⟨p, zs, y2, y3, y4, y5, y6, y7, y8, rfl, s2, ep, al⟩ ⟨rfl, hx⟩
      rw [had.1] at hi
      obtain ⟨b, rfl, hb⟩ := had.at hi hx
      have drd := dr _ (List.getElem_mem hi)
      have rl := rowsF_len dr dl i
      have rl2 := rowsF_len dr dl (i + 1)
      have rrow := rowsF_row i (Nat.le_of_lt hi)
      rw [rowsF_succ hi] at rl2 ⊢
      generalize ds[i] = d at hb drd rl2 ⊢
      generalize rowsF (ds.take i) = rs at al rl rl2 rrow ⊢
      obtain ⟨c1, c2⟩ := cnt_le drd
      have dr2 := drd
      unfold DrD at dr2
      refine ⟨b, _, rfl, SqT.of (s2 _ _ hb), rfl, _, _, rfl, _, _, rfl, _, _, rfl, _, _, rfl, rfl, ?_⟩
      refine ⟨Nat.zero_le _, fun p2 np2 => ?_⟩
      have s3 : Same H' (upd H' p2 (.lst [])) := same_new np2
      refine ⟨fun σ H3 => ∃ ws y7 y8, σ = [some (.ref a), some (.ref p), some (.str d.n), some (.int d.l), some (.int d.h), some (.int d.s), some (.ref p2), y7, y8] ∧ Same H' H3 ∧ H3 p2 = some (.lst ws) ∧ All (IsAt H3) ws (rowS rs d), ?_, ?_⟩
      · refine ⟨_, rfl, p, rfl, ⟨_, .inl (.inl (s3 _ _ ep))⟩, for_it (walk_list (xs := zs)) (fun j σ H3 => ∃ ws y7 y8, σ = [some (.ref a), some (.ref p), some (.str d.n), some (.int d.l), some (.int d.h), some (.int d.s), some (.ref p2), y7, y8] ∧ Same H' H3 ∧ H3 p2 = some (.lst ws) ∧ All (IsAt H3) ws (rowS (rs.take j) d)) ?_ ?_ ?_ ?_⟩
        · exact ⟨[], _, _, rfl, s3, upd_same, All.nil⟩
        · rintro j σ H3 hj ⟨ws, y7, y8, rfl, s4, _⟩
          exact .inl (.inl (s4 _ _ ep))
        · rintro j x σ H3 H4 hj ⟨ws, y7, y8, rfl, s4, e2, alw⟩ ⟨rfl, hx⟩
          rw [al.1] at hj
          obtain ⟨e, rfl, he⟩ := al.at hj hx
          have er : rowS (rs.take (j + 1)) d = rowS (rs.take j) d ++ (List.range (cntD d)).map fun (i : Nat) => rs[j] ++ [(i : Int)] := by
            unfold rowS
            rw [List.take_add_one, List.getElem?_eq_getElem hj, List.flatMap_append]
            show _ ++ [rs[j]].flatMap _ = _
            rw [List.flatMap_singleton]
          have wl : (rowS (rs.take j) d).length ≤ 729 := by
            have := rowS_len (rs.take j) drd
            rw [List.length_take] at this
            omega
          rw [er]
          have rlen := rrow _ (List.getElem_mem hj)
          generalize rs[j] = r at he rlen ⊢
          generalize rowS (rs.take j) d = acc at alw wl ⊢
          refine ⟨_, rfl, _, rfl, _, _, rfl, rfl, _, rfl, _, _, rfl, rfl, ⟨by omega, by omega⟩, _, _, rfl, rfl, ?_⟩
          refine ⟨_, rfl, by omega, by omega, for_range (lo := 0) (n := ((d.h - d.l) / d.s + 1).toNat) (fun k σ H5 => ∃ ws y8, σ = [some (.ref a), some (.ref p), some (.str d.n), some (.int d.l), some (.int d.h), some (.int d.s), some (.ref p2), some (.ref e), y8] ∧ Same H' H5 ∧ H5 p2 = some (.lst ws) ∧ All (IsAt H5) ws (acc ++ (List.range k).map fun (i : Nat) => r ++ [(i : Int)])) ?_ ?_ ?_⟩
          · exact ⟨ws, _, rfl, s4, e2, by rw [List.range_zero, List.map_nil, List.append_nil]; exact alw⟩
          · rintro k σ H5 hk ⟨vs, y8, rfl, s5, e5, al5⟩
            have he5 := s5 _ _ he
            have vl := al5.1
            rw [List.length_append, List.length_map, List.length_range] at vl
            have hk9 : k < 9 := by
              have : cntD d = ((d.h - d.l) / d.s + 1).toNat := rfl
              omega
            have er2 : acc ++ (List.range (k + 1)).map (fun (i : Nat) => r ++ [(i : Int)]) = (acc ++ (List.range k).map (fun (i : Nat) => r ++ [(i : Int)])) ++ [r ++ [(k : Int)]] := by
              rw [List.range_succ, List.map_append, List.append_assoc]
              rfl
            have fin : ∀ (H6 : Hp) (t : Addr), Same H5 H6 → H6 t = some (.tup ((r ++ [(k : Int)]).map V.int)) → ∃ ws y8, [some (V.ref a), some (.ref p), some (.str d.n), some (.int d.l), some (.int d.h), some (.int d.s), some (.ref p2), some (.ref e), some (.int (0 + (k : Int)))] = [some (V.ref a), some (.ref p), some (.str d.n), some (.int d.l), some (.int d.h), some (.int d.s), some (.ref p2), some (.ref e), y8] ∧ Same H' (upd H6 p2 (.lst (vs ++ [.ref t]))) ∧ (upd H6 p2 (.lst (vs ++ [.ref t]))) p2 = some (.lst ws) ∧ All (IsAt (upd H6 p2 (.lst (vs ++ [.ref t])))) ws (acc ++ (List.range (k + 1)).map fun (i : Nat) => r ++ [(i : Int)]) := fun H6 t s6 et => by
              refine ⟨vs ++ [.ref t], _, rfl, fun z o ez => ?_, upd_same, ?_⟩
              · rw [upd_ne (fun y => by rw [y, np2] at ez; cases ez)]
                exact s6 _ _ (s5 _ _ ez)
              · rw [er2]
                have e6 := s6 _ _ e5
                refine All.push (al5.imp fun y q' ⟨b', b1, b2⟩ => ⟨b', b1, ?_⟩) ⟨t, rfl, by rw [upd_ne (ne_of et e6 (by intro z; cases z))]; exact et⟩
                rw [upd_ne (ne_of b2 e5 (by intro z; cases z))]
                exact s6 _ _ b2
            refine ⟨_, rfl, .inl ⟨rfl, _, .inl (.inl e5)⟩, _, rfl, _, rfl, (by show 1 ≤ sizeLine; decide), fun t nt => ?_⟩
            have st := same_new (o := .tup [.int (0 + (k : Int))]) nt
            refine ⟨e, t, _, _, rfl, rfl, SqT.of (st _ _ he5), SqT.of upd_same, ?_, fun hnil => ?_, (fun _ h => by cases h), fun _ _ t2 nt2 => ?_⟩
            · rw [List.length_map]
              show r.length + 1 ≤ sizeLine
              exact big (by omega)
            · refine ⟨p2, vs, .ref t, rfl, rfl, st _ _ e5, small1000 (by omega), fin _ t st ?_⟩
              rw [upd_same]
              have : r = [] := List.map_eq_nil_iff.mp hnil
              rw [this, show (0 : Int) + (k : Int) = (k : Int) from by omega]
              rfl
            · refine ⟨p2, vs, .ref t2, rfl, rfl, same_new nt2 _ _ (st _ _ e5), small1000 (by omega), fin _ t2 (st.trans (same_new nt2)) ?_⟩
              rw [upd_same, show (0 : Int) + (k : Int) = (k : Int) from by omega, List.map_append]
              rfl
          · rintro σ H5 ⟨vs, y8, rfl, s5, e5, al5⟩
            exact ⟨vs, _, _, rfl, s5, e5, al5⟩
        · rintro σ H3 ⟨ws, y7, y8, rfl, s4, e2, alw⟩
          rw [al.1, List.take_length] at alw
          exact ⟨ws, _, _, rfl, s4, e2, alw⟩
      · rintro σ H3 ⟨ws, y7, y8, rfl, s4, e2, alw⟩
        exact ⟨_, rfl, p2, ws, _, _, _, _, _, _, _, rfl, s2.trans s4, e2, alw⟩
    · rintro σ H2 ⟨p, zs, y2, y3, y4, y5, y6, y7, y8, rfl, s2, ep, al⟩
      rw [had.1, List.take_length] at al
      exact ⟨_, rfl, q H2 p zs s2 ep al⟩
end
end K2

namespace K2
open PySem L2
/-- all but lists stay -/
def Kt (H H1 : Hp) : Prop := ∀ a o, H a = some o → (∀ xs, o ≠ .lst xs) → H1 a = some o
theorem Kt.trans {H H1 H2 : Hp} (a : Kt H H1) (b : Kt H1 H2) : Kt H H2 := fun x o e n => b x o (a x o e n) n
theorem kt_same {H H1 : Hp} (s : Same H H1) : Kt H H1 := fun x o e _ => s x o e
theorem kt_ex {H H1 : Hp} {S : Addr} (x : Ex H H1 S) (t : SAt H S) : Kt H H1 := fun a o e n => x a o e fun z => by
  obtain ⟨u, v, eS⟩ := t
  rw [z, eS] at e
  exact n _ (Option.some.inj e).symm
theorem kt_upd {H : Hp} {p : Addr} {xs ys : List V} (e : H p = some (.lst xs)) : Kt H (upd H p (.lst ys)) := fun a o ea n => by
  rw [upd_ne fun z => n xs (by rw [z, e] at ea; exact (Option.some.inj ea).symm)]
  exact ea
section
variable {H H1 : Hp} {C : Addr}
theorem RowAt.kt {r : List V} {x : V} (h : RowAt H r x) (k : Kt H H1) : RowAt H1 r x := let ⟨a, e1, e2⟩ := h; ⟨a, e1, k _ _ e2 (fun _ z => nomatch z)⟩
theorem TupAt.kt {α : Type} {R S : V → α → Prop} {x : V} {l : List α} (h : TupAt H R x l) (k : Kt H H1) (f : ∀ x a, R x a → S x a) : TupAt H1 S x l := let ⟨a, xs, e1, e2, e3⟩ := h; ⟨a, xs, e1, k _ _ e2 (fun _ z => nomatch z), e3.imp f⟩
theorem ShAt.kt {x : V} {ds : List D} {ts : List T} (h : ShAt H C x ds ts) (k : Kt H H1) : ShAt H1 C x ds ts := let ⟨a, dx, u, v, e1, e2, e3, e4⟩ := h
  ⟨a, dx, u, v, e1, k _ _ e2 (fun _ z => nomatch z), e3.kt k fun _ _ z => z.kt k, e4.kt k fun _ _ z => z.kt k⟩
theorem CkAt.kt {x : V} {c : Ck} (h : CkAt H x c) (k : Kt H H1) : CkAt H1 x c := let ⟨a, b, e1, e2, e3⟩ := h; ⟨a, b, e1, k _ _ e2 (fun _ z => nomatch z), k _ _ e3 (fun _ z => nomatch z)⟩
theorem ArAt.kt {x : V} {r : Ar} (h : ArAt H C x r) (k : Kt H H1) : ArAt H1 C x r := let ⟨a, u, v, e1, e2, e3, e4⟩ := h; ⟨a, u, v, e1, k _ _ e2 (fun _ z => nomatch z), e3.kt k, e4.kt k fun _ _ z => z.kt k⟩
theorem VeAt.kt {x : V} {r : Ve} (h : VeAt H C x r) (k : Kt H H1) : VeAt H1 C x r := let ⟨a, v, e1, e2, e3⟩ := h; ⟨a, v, e1, k _ _ e2 (fun _ z => nomatch z), e3.kt k fun _ _ z => z.kt k⟩
end
section
variable {P : Program} {w : World} {K : PySem.W.Frag} {mg : Str → Option Value} {base : Heap}
def RIn (CR C : Addr) : Sp := fun vs H Q _ => ∃ (x dx : Addr) (u v t : V), vs = [.ref x, u, v, t] ∧ H x = some (.ins CR dx []) ∧ ∀ H', Ex H H' x → H' x = some (.ins CR dx [("upcoming", u), ("data", v), ("versions", t)]) → Q .non H'
theorem scRI : FnScope ["self", "upcoming", "data", "versions"] ["self", "upcoming", "data", "versions"] (defScope sRootInit) := ⟨rfl, rfl, rfl, by decide +kernel, rfl, by decide +kernel, by decide +kernel⟩
theorem ok_ri {f CR C : Addr} {fd : FuncData} (F : Fun K "__init__" "Root.__init__" sRootInit f fd) (R : KC K CR f RHf) : FnOk P w K mg base CX0 1 f fd ["self", "upcoming", "data", "versions"] (RIn CR C) := by
  refine F.ok scRI (fun vs H Q E h => ?_) (fun cdv A outer s H vs Q E hr h => ?_)
  · obtain ⟨x, dx, u, v, t, rfl, _⟩ := h
    rfl
  · obtain ⟨x, dx, u, v, t, rfl, hx, q⟩ := h
    refine ⟨_, pss_cons (ps_fld (pv 0) (pv 1) rfl) (pss_cons (ps_fld (pv 0) (pv 2) rfl) (pss_one (ps_fld (pv 0) (pv 3) rfl))), ?_⟩
    refine ⟨_, rfl, _, rfl, x, CR, dx, [], rfl, hx, R.cl, R.na _ (by decide +kernel), (by decide), ?_⟩
    refine ⟨_, rfl, _, rfl, x, CR, dx, _, rfl, upd_same, R.cl, R.na _ (by decide +kernel), (by show 1 < 1000; decide), ?_⟩
    exact ⟨_, rfl, _, rfl, x, CR, dx, _, rfl, upd_same, R.cl, R.na _ (by decide +kernel), (by show 2 < 1000; decide), q _ (fun a o e n => by rw [upd_ne n, upd_ne n, upd_ne n]; exact e) upd_same⟩
end
end K2

namespace K2
open PySem PySem.Spec PyProof.Rows L2
/-! ### t >= u, tuples of ints -/
theorem lexGe {ns ms : List Int} : ∀ (k i : Nat), i + k = min ns.length ms.length →
    Ob.lexAt (fun j => decide (ns.getD j 0 = ms.getD j 0)) (fun j => decide (ms.getD j 0 ≤ ns.getD j 0)) (decide (ns.length ≥ ms.length)) i k = !HT.lexLt (ns.drop i) (ms.drop i)
  | 0, i, h => by
    rw [Ob.lexAt_zero]
    rcases Nat.lt_or_ge ns.length ms.length with g | g
    · rw [decide_eq_false (by omega), List.drop_of_length_le (by omega), List.drop_eq_getElem_cons (show i < ms.length by omega)]
      rfl
    · rw [decide_eq_true g, List.drop_of_length_le (l := ms) (by omega)]
      cases ns.drop i <;> rfl
  | k + 1, i, h => by
    have h1 : i < ns.length := by omega
    have h2 : i < ms.length := by omega
    have g1 : ns.getD i 0 = ns[i] := by rw [List.getD_eq_getElem?_getD, List.getElem?_eq_getElem h1]; rfl
    have g2 : ms.getD i 0 = ms[i] := by rw [List.getD_eq_getElem?_getD, List.getElem?_eq_getElem h2]; rfl
    rw [Ob.lexAt_succ, lexGe k (i + 1) (by omega), List.drop_eq_getElem_cons h1, List.drop_eq_getElem_cons h2]
    rw [g1, g2]
    show _ = !(if ns[i] = ms[i] then HT.lexLt (ns.drop (i + 1)) (ms.drop (i + 1)) else decide (ns[i] < ms[i]))
    by_cases e : ns[i] = ms[i]
    · rw [if_pos e, decide_eq_true e, if_pos rfl]
    · rw [if_neg e, decide_eq_false e, if_neg Bool.false_ne_true]
      by_cases l : ns[i] < ms[i]
      · rw [decide_eq_true l, decide_eq_false (by omega)]
        rfl
      · rw [decide_eq_false l, decide_eq_true (by omega)]
        rfl
def rGeT (K : PySem.W.Frag) : R2 := fun x y H Q => ∃ (a b : Addr) (ns ms : List Int), x = .ref a ∧ y = .ref b ∧ SqT K H a (ns.map V.int) ∧ SqT K H b (ms.map V.int) ∧ Q (.bl (!HT.lexLt ns ms)) H
theorem op_geT {X : Cx} (hu : X.A.units < cLine) : OpR X (compareOp .GtE) (rGeT X.K) := by
  rintro pins s σ H x y v u Q I rx ry ⟨a, b, ns, ms, rfl, rfl, ha, hb, q⟩
  cases rx
  cases ry
  obtain ⟨its, r1, p1, _⟩ := I.tuple ha
  obtain ⟨jts, r2, p2, _⟩ := I.tuple hb
  have i1 : IntsAre its ns := Vals.ints r1
  have i2 : IntsAre jts ms := Vals.ints r2
  have at_ : ∀ {l : List Value} {ks : List Int} (i : IntsAre l ks) (j : Nat) (h : j < l.toArray.size), ∃ t, l.toArray[j] = .int (ks.getD j 0) t := fun i j h => PyProof.Rows.IntsAre.int_at i _ _ (by simp at h; simp [h])
  have R := Ob.RcOp.tuples_ge (A := X.A) (s := s) (e := fun j => decide (ns.getD j 0 = ms.getD j 0)) (r := fun j => decide (ms.getD j 0 ≤ ns.getD j 0)) p1 p2 hu (fun j g1 g2 => by
      obtain ⟨t1, e1⟩ := at_ i1 j g1
      obtain ⟨t2, e2⟩ := at_ i2 j g2
      rw [e1, e2]
      have y : decide (ns.getD j 0 = ms.getD j 0) = (ns.getD j 0 == ms.getD j 0) := rfl
      rw [y]
      exact SeqAt.EqAt.int_int _ _ _ _) (fun j g1 g2 _ => by
      obtain ⟨t1, e1⟩ := at_ i1 j g1
      obtain ⟨t2, e2⟩ := at_ i2 j g2
      rw [e1, e2]
      exact Ob.RcOp.ge_int _ _ _ _)
  have s1 : its.toArray.size = ns.length := by rw [List.size_toArray]; exact i1.length
  have s2 : jts.toArray.size = ms.length := by rw [List.size_toArray]; exact i2.length
  rw [s1, s2, lexGe _ 0 (by omega)] at R
  exact R X.prog X.w X.xe (EP X pins σ Q) ⟨.bl _, H, I, rfl, q⟩
/-! ### a shape beside a reader -/
theorem ShAt.ex {CO C : Addr} {H H1 : Hp} {r lo : Addr} {os : List Int} {n : Nat} {x : V} {ds : List D} {ts : List T} (h : ShAt H C x ds ts) (e : Ex H H1 r) (rd : RdAt CO H r lo os n) : ShAt H1 C x ds ts := by
  obtain ⟨a, dx, u, v, e1, e2, ⟨a3, xs3, f1, f2, f3⟩, ⟨a4, xs4, g1, g2, g3⟩⟩ := h
  obtain ⟨dr, er⟩ := rd.i
  have na : a ≠ r := ne_of e2 er (by
    intro z
    injection z with _ _ z
    injection z with z _
    injection z with z _
    exact absurd z (by decide +kernel))
  exact ⟨a, dx, u, v, e1, e _ _ e2 na, ⟨a3, xs3, f1, e _ _ f2 (ne_of f2 er (by intro z; cases z)), f3.imp fun y d h => h.ex e rd⟩, ⟨a4, xs4, g1, e _ _ g2 (ne_of g2 er (by intro z; cases z)), g3.imp fun y d h => h.ex e rd⟩⟩
end K2

/-! zip of a tuple and a list -/
namespace K2
open PySem PySem.Spec PyProof.Rows L2
def ItTL (K : PySem.W.Frag) (a b : Addr) (xs ys : List V) : It :=
  ⟨fun i H => (SqT K H a xs ∧ SqL K H b ys) ∧ i < xs.length ∧ i < ys.length,
    fun i H v H' => ∃ T x y, v = .ref T ∧ H T = none ∧ H' = upd H T (.tup [x, y]) ∧ xs[i]? = some x ∧ ys[i]? = some y,
    fun i H => (SqT K H a xs ∧ SqL K H b ys) ∧ i ≤ xs.length ∧ i ≤ ys.length ∧ (i = xs.length ∨ i = ys.length)⟩
def StTL (z TI TO i1 i2 a b : Addr) (i : Nat) (h : Heap) : Prop :=
  IsZip h z TI TO .none ∧ IsTupOf2 h TI (.ref i1) (.ref i2) ∧ (∃ x y, IsTupOf2 h TO x y) ∧ h.IsTupleIter i1 a i ∧ h.IsListIter i2 b i
structure SepTL (z TI TO i1 i2 a b : Addr) : Prop where
  s : ZipSep2 z TI TO i1 i2 [i1, a] [i2, b]
  a1 : a ≠ i1
  b2 : b ≠ i2
theorem sepTL (n a b : Nat) (ha : a < n) (hb : b < n) : SepTL (n + 4) (n + 2) (n + 3) n (n + 1) a b := by
  have m2 : ∀ {x y z : Nat}, x ≠ y → x ≠ z → x ∉ [y, z] := fun h1 h2 q => by
    rcases List.mem_cons.mp q with e | q
    · exact h1 e
    · exact h2 (List.mem_singleton.mp q)
  have k1 : ∀ i j : Nat, i ≠ j → n + i ≠ n + j := fun i j h => by omega
  have k2 : ∀ i j : Nat, j < n → n + i ≠ j := fun i j h => by omega
  exact ⟨⟨k1 2 4 (by decide), k1 3 4 (by decide), k1 2 3 (by decide), k1 2 0 (by decide), List.mem_cons_self, m2 (k1 4 0 (by decide)) (k2 4 a ha), m2 (k1 3 0 (by decide)) (k2 3 a ha), k1 2 1 (by decide), List.mem_cons_self, m2 (k1 4 1 (by decide)) (k2 4 b hb), m2 (k1 3 1 (by decide)) (k2 3 b hb), m2 (k1 0 1 (by decide)) (k2 0 b hb), m2 (k1 1 0 (by decide)) (k2 1 a ha)⟩, (k2 0 a ha).symm, (k2 1 b hb).symm⟩
theorem tu_zipTL {P : Program} {w : World} {K : PySem.W.Frag} {elts : List Expr} {kk : Nat} {tpos : Pos} {a b z TI TO i1 i2 : Addr} (xs ys : List V) (S : SepTL z TI TO i1 i2 a b) :
    Turn P w K (.Tuple elts kk tpos) (ItTL K a b xs ys) [z, TI, TO, i1, i2] z (StTL z TI TO i1 i2 a b) := by
  have five : ∀ {p : Addr → Prop}, p z → p TI → p TO → p i1 → p i2 → ∀ c ∈ [z, TI, TO, i1, i2], p c := by
    intro p q1 q2 q3 q4 q5 c hc
    rcases List.mem_cons.mp hc with rfl | hc
    · exact q1
    rcases List.mem_cons.mp hc with rfl | hc
    · exact q2
    rcases List.mem_cons.mp hc with rfl | hc
    · exact q3
    rcases List.mem_cons.mp hc with rfl | hc
    · exact q4
    rw [List.mem_singleton.mp hc]
    exact q5
  refine ⟨by simp, fun i h st => ?_, fun i h h' st k => ?_, ?_, ?_, fun A i s Q E st h => wpAny_pyIter_zip st.1 h⟩
  · obtain ⟨q1, q2, ⟨x, y, q3⟩, ⟨o1, e1, _, d1⟩, ⟨o2, e2, _, d2⟩⟩ := st
    exact five (p := fun b => ∃ o, h.get? b = some o ∧ ∀ v, o.data ≠ .cell v) ⟨_, q1, fun v q => nomatch q⟩ ⟨_, q2, fun v q => nomatch q⟩ ⟨_, q3, fun v q => nomatch q⟩ ⟨o1, e1, fun v q => by rw [d1] at q; cases q⟩ ⟨o2, e2, fun v q => by rw [d2] at q; cases q⟩
  · obtain ⟨q1, q2, ⟨x, y, q3⟩, q4, q5⟩ := st
    exact ⟨k z (by simp) _ q1, k TI (by simp) _ q2, ⟨x, y, k TO (by simp) _ q3⟩, q4.at fun o q => k i1 (by simp) o q, q5.at fun o q => k i2 (by simp) o q⟩
  · intro X hP hw hK hc i pins s σ H E I hf st hg
    subst hP hw hK
    obtain ⟨q1, q2, ⟨x0, y0, q3⟩, q4, q5⟩ := st
    obtain ⟨⟨ha, hb⟩, hi, hj⟩ := hg
    obtain ⟨its, rv, p, _⟩ := I.tuple ha
    obtain ⟨jts, rw', p', _⟩ := I.list hb
    have pt : s.heap.IsTuple a its.toArray := p
    have pl : s.heap.IsList b jts.toArray := p'.isList
    obtain ⟨u, hu, ru⟩ := rv.get (List.getElem?_eq_getElem hi)
    obtain ⟨v, hv, rv'⟩ := rw'.get (List.getElem?_eq_getElem hj)
    have hi2 : i < its.toArray.size := by rw [List.size_toArray, ← rv.length]; exact hi
    have hj2 : i < jts.toArray.size := by rw [List.size_toArray, ← rw'.length]; exact hj
    have lt : ∀ c ∈ [z, TI, TO, i1, i2], c < s.heap.objs.size := five (p := fun c => c < s.heap.objs.size) (Heap.lt_size q1) (Heap.lt_size q2) (Heap.lt_size q3) (let ⟨_, q, _⟩ := q4; Heap.lt_size q) (let ⟨_, q, _⟩ := q5; Heap.lt_size q)
    refine wpAny_pyNext_zipD2_item S.s (Draws.tuple (prog := X.prog) (w := X.w) (A := X.A.in1) (I.ok.hd hc) i1 a S.a1 its.toArray) (Draws.list (prog := X.prog) (w := X.w) (A := X.A.in1) (I.ok.hd hc) i2 b S.b2 jts.toArray) q1 q2 q3 ⟨q4, pt⟩ ⟨q5, pl⟩ hi2 hj2
      fun x1 x2 h2 tk hx1 hx2 z2 t2 w1 w2 nT hsz hk => ?_
    have ex : x1 = u := by
      have y : its.toArray[i]? = some x1 := hx1
      rw [List.getElem?_toArray, hu] at y
      exact (Option.some.inj y).symm
    have ey : x2 = v := by
      have y : jts.toArray[i]? = some x2 := hx2
      rw [List.getElem?_toArray, hv] at y
      exact (Option.some.inj y).symm
    subst ex ey
    refine ⟨_, rfl, wpAny_letOwnedTupleGo_zip (s := { s with heap := h2, toks := tk }) z2 fun h3 z3 sb => ?_⟩
    have lz := lt z (by simp)
    have nT3 : h3.get? s.heap.objs.size = some { cls := .type "tuple", data := .seq #[x1, x2] } := (sb.2 _ (Nat.ne_of_gt lz)).trans nT
    have sm3 : ∀ c ob, c ∉ [z, TI, TO, i1, i2] → s.heap.get? c = some ob → h3.get? c = some ob := fun c ob hb q => by
      have n1 : c ≠ z := fun z => hb (by simp [z])
      exact (sb.2 c n1).trans (hk c ob n1 (fun z => hb (by simp [z])) (fun z => hb (by simp [z])) (fun z => hb (by simp [z])) q)
    have nw : ObjOk X.prog X.w (upd H s.heap.objs.size (.tup [xs[i], ys[i]])) h3 s.heap.objs.size (.tup [xs[i], ys[i]]) :=
      ⟨by show 2 ≤ sizeLine; decide, [x1, x2], .cons ru (.cons rv' .nil), _, nT3, rfl, _, rfl⟩
    have I3 := I.turnedNew (t' := tk) (ch := [z, TI, TO, i1, i2]) sm3 hf (Nat.le_refl _) nw
    refine ⟨.ref s.heap.objs.size, _, I3, rfl, ⟨_, xs[i], ys[i], rfl, I.hok.fresh (Nat.le_refl _), rfl, List.getElem?_eq_getElem hi, List.getElem?_eq_getElem hj⟩, ⟨z3, ?_, ⟨x1, x2, (sb.2 _ S.s.TOz).trans t2⟩, w1.1.at fun o q => (sb.2 i1 S.s.zi1.symm).trans q, w2.1.at fun o q => (sb.2 i2 S.s.zi2.symm).trans q⟩, fun c hcm => ?_⟩
    · exact (sb.2 _ S.s.TIz).trans (hk TI _ S.s.TIz S.s.TITO S.s.TIi1 S.s.TIi2 q2)
    · rw [upd_ne (Nat.ne_of_lt (lt c hcm))]
      exact (hf c hcm).1
  · intro X hP hw hK hc i pins s σ H E I hf st hg
    subst hP hw hK
    obtain ⟨q1, q2, ⟨x0, y0, q3⟩, q4, q5⟩ := st
    obtain ⟨⟨ha, hb⟩, hi, hj, he⟩ := hg
    obtain ⟨its, rv, p, _⟩ := I.tuple ha
    obtain ⟨jts, rw', p', _⟩ := I.list hb
    have pt : s.heap.IsTuple a its.toArray := p
    have pl : s.heap.IsList b jts.toArray := p'.isList
    have l1 : its.toArray.size = xs.length := by rw [List.size_toArray, ← rv.length]
    have l2 : jts.toArray.size = ys.length := by rw [List.size_toArray, ← rw'.length]
    refine wpAny_pyNext_zipD2_end S.s (Draws.tuple (prog := X.prog) (w := X.w) (A := X.A.in1) (I.ok.hd hc) i1 a S.a1 its.toArray) (Draws.list (prog := X.prog) (w := X.w) (A := X.A.in1) (I.ok.hd hc) i2 b S.b2 jts.toArray) q1 q2 q3 ⟨q4, pt⟩ ⟨q5, pl⟩ (by omega) (by omega) (by omega)
      fun h2 tk hk => ⟨rfl, I.turnedL (t' := tk) (ch := [z, TI, TO, i1, i2]) (fun c o hb q => hk c o (fun z => hb (by simp [z])) (fun z => hb (by simp [z])) (fun z => hb (by simp [z])) (fun z => hb (by simp [z])) q) hf⟩
def iZipTL (K : PySem.W.Frag) (ta : TA) : TI := fun σ H R => ta σ H fun vs H1 => ∃ a b xs ys, vs = [.ref a, .ref b] ∧ (SqT K H1 a xs ∧ SqL K H1 b ys) ∧ R (ItTL K a b xs ys) H1
theorem pi_zipTL {X : Cx} {e e2 : Expr} {ta : TA} {p pos tpos : Pos} {elts : List Expr} {kk : Nat} (hg : Gl X "zip") (hm : X.mg "zip" = none) (ha : PA X [e, e2] ta)
    (hs : starEach [e, e2] X.env = (false, eval e X.env) :: starEach [e2] X.env := by rfl) (hs2 : (backTo pos (starEach [e2] X.env)).any (·.1) = false := by rfl) :
    PI X (.Tuple elts kk tpos) (.Call (.Name "zip" p) [e, e2] [] pos) (iZipTL X.K ta) := by
  refine ⟨fun pins s σ H R I h => Call_ (ld_blt I hg hm boot_zip (PyProof.Rows.callWith_type1 (thn (ha.run pos pins s σ H _ I h) fun us s1 ⟨vs, H1, I1, r1, a, b, xs, ys, ex, ⟨h1, h2⟩, q⟩ => ?_) hs hs2))⟩
  subst ex
  obtain ⟨its, rv, p1, _⟩ := I1.tuple h1
  obtain ⟨jts, rw', p2, _⟩ := I1.list h2
  have pt : s1.heap.IsTuple a its.toArray := p1
  have pl : s1.heap.IsList b jts.toArray := p2.isList
  have la : a < s1.heap.objs.size := by obtain ⟨_, q, _⟩ := id pt; exact Heap.lt_size q
  have lb : b < s1.heap.objs.size := by obtain ⟨_, q, _⟩ := id pl; exact Heap.lt_size q
  cases r1 with
  | cons r rr =>
    cases rr with
    | cons r' rr =>
      cases rr
      cases r
      cases r'
      refine zip_begins2 (begins_tuple a its.toArray) (begins_list b jts.toArray) pt pl fun h2 z1 z2 z3 z4 z5 sz hk => wpAny_pyIter_zip z1 ?_
      have S := sepTL s1.heap.objs.size a b la lb
      refine ⟨s1.heap.objs.size + 4, [s1.heap.objs.size + 4, s1.heap.objs.size + 2, s1.heap.objs.size + 3, s1.heap.objs.size, s1.heap.objs.size + 1], _, _, H1, rfl, I1.kept (t' := s1.toks) hk, tu_zipTL xs ys S, ⟨z1, z2, ⟨_, _, z3⟩, ⟨_, z4, rfl, rfl⟩, ⟨_, z5, rfl, rfl⟩⟩, fun c hc => ?_, q⟩
      have lc : s1.heap.objs.size ≤ c := by
        have k0 : ∀ i : Nat, s1.heap.objs.size ≤ s1.heap.objs.size + i := fun i => Nat.le_add_right _ i
        simp only [List.mem_cons, List.not_mem_nil, or_false] at hc
        rcases hc with rfl | rfl | rfl | rfl | rfl
        · exact k0 4
        · exact k0 2
        · exact k0 3
        · exact k0 0
        · exact k0 1
      exact I1.fpOk lc (I1.hok.fresh lc)
theorem walk_zipTL {K : PySem.W.Frag} {a b : Addr} {xs ys : List V} (hl : xs.length = ys.length) : Walk (ItTL K a b xs ys) xs.length (fun H => SqT K H a xs ∧ SqL K H b ys) (YPair (fun i => xs[i]?) (fun i => ys[i]?)) :=
  ⟨fun i _ hi q => ⟨q, hi, hl ▸ hi⟩, fun _ q => ⟨q, Nat.le_refl _, Nat.le_of_eq hl, .inl rfl⟩, fun i H v H' _ q ⟨T, x, y, h1, h2, h3, h4, h5⟩ => ⟨T, x, y, h1, h2, h3, h4, h5⟩⟩
end K2

namespace K2
open PySem L2
theorem pg_tupK {X : Cx} {es : List Expr} {k : Nat} {t : TGs} {n : Nat} {pos : Pos} (K : PySem.W.Frag) (hK : X.K = K) (hc : X.calm = true) (h : PGs X es t)
    (hn : (assignEach es X.env).length = n := by rfl) (hst : (assignEach es X.env).findIdx? (·.1) = none := by rfl) : PG X (.Tuple es k pos) (gTup K n t) := by
  subst hK
  exact pg_tup hc h hn hst
theorem andF {b : Bool} {A B : Prop} (h1 : b = true → B → A) (h2 : B) : if b = true then A else B := by
  cases b
  · exact h2
  · exact h1 rfl h2
theorem atI_neg1 {xs : List V} {v : V} (h : xs[xs.length - 1]? = some v) : atI xs (-1) = some v := by
  rcases List.eq_nil_or_concat xs with rfl | ⟨l, b, rfl⟩
  · simp at h
  · rw [List.concat_eq_append] at h ⊢
    rw [List.length_append, List.getElem?_append_right (by show _ ≤ l.length + 1 - 1; omega)] at h
    have : l.length + [b].length - 1 - l.length = 0 := by show l.length + 1 - 1 - l.length = 0; omega
    rw [this] at h
    obtain rfl := Option.some.inj h
    exact atI_last l _
def mx (d : D) : Int := (d.h - d.l) / d.s
structure GCk (ds : List D) (c : Ck) : Prop where
  len : c.c.length = ds.length
  ix : ∀ (i : Nat) (h : i < c.c.length) (h2 : i < ds.length), 0 ≤ c.c[i] ∧ c.c[i] ≤ mx ds[i]
  o : 0 ≤ c.o ∧ c.o < 4294967296
  l : 0 ≤ c.l ∧ c.l < 4294967296
structure GCs (ds : List D) (cs : List Ck) : Prop where
  len : cs.length ≤ 1000000
  ck : ∀ c ∈ cs, GCk ds c
  up : ∀ (i : Nat) (h : i + 1 < cs.length), HT.lexLt cs[i].c cs[i + 1].c = true
theorem CkAt.ex {CO : Addr} {H H1 : Hp} {r lo : Addr} {os : List Int} {n : Nat} {x : V} {c : Ck} (h : CkAt H x c) (e : Ex H H1 r) (rd : RdAt CO H r lo os n) : CkAt H1 x c := by
  obtain ⟨a, b, e1, e2, e3⟩ := h
  obtain ⟨dr, er⟩ := rd.i
  exact ⟨a, b, e1, e _ _ e2 (ne_of e2 er (by intro z; cases z)), e _ _ e3 (ne_of e3 er (by intro z; cases z))⟩
theorem mx_le {d : D} (g : GDs d) : mx d < 4294967296 := by
  have h1 := g.lh
  have h2 := g.h1
  have h3 := g.l0
  have h4 := g.s0
  unfold mx
  have : (d.h - d.l) / d.s ≤ d.h - d.l := Int.ediv_le_self _ (by omega)
  omega
section
variable {P : Program} {w : World} {K : PySem.W.Frag} {mg : Str → Option Value} {base : Heap}
def spRC (CO C : Addr) : Sp := fun vs H Q _ => ∃ (r lo : Addr) (v : V) (os rest : List Int) (n : Nat) (ds : List D) (ts : List T) (cs : List Ck), vs = [.ref r, v] ∧ RdAt CO H r lo os n ∧ os.drop n = eCs cs ++ rest ∧ ShAt H C v ds ts ∧ GSh ds ts ∧ GCs ds cs ∧
  ∀ H' t, Ex H H' r → RdAt CO H' r lo os (n + (eCs cs).length) → TupAt H' (CkAt H') t cs → Q t H'
theorem scRC : FnScope ["reader", "shape", "last", "chunks", "_", "first", "chunk", "offset", "name", "low", "high", "step", "index", "most"] ["reader", "shape"] (defScope sReadChunks) := ⟨rfl, rfl, rfl, by decide +kernel, rfl, by decide +kernel, by decide +kernel⟩
theorem ok_rc {f fI CO C : Addr} {fd : FuncData} (F : Fun K "read_chunks" "read_chunks" sReadChunks f fd) (M : Nm mg) (hall : mg "all" = none) (Z : RF P w K mg base CO) (S : KC K C fI SHf) : FnOk P w K mg base CX0 3 f fd ["reader", "shape"] (spRC CO C) := by
  have G4 := Z.G4
  have T := Z.T
  refine F.ok scRC (fun vs H Q E h => ?_) (fun cdv A outer s H vs Q E hr h => ?_)
  · obtain ⟨r, lo, v, os, rest, n, ds, ts, cs, rfl, _⟩ := h
    rfl
  · obtain ⟨r, lo, v, os, rest, n, ds, ts, cs, rfl, rd, hd, sh, g, gc, q⟩ := h
    refine ⟨_, Evl.pss_cut (ps_setLc (i := 2) (own := [("name", 8), ("low", 9), ("high", 10), ("step", 11)]) (g := gTup K 4 (gCons (gName 8) (gCons (gName 9) (gCons (gName 10) (gCons (gName 11) gNil))))) (tt := tYes) rfl scRC.nd rfl rfl (sw_true rfl rfl rfl (by decide +kernel)) (pi_tup (pe_fld (pv 1) rfl))
          (blkOk_by (N := ["reader", "shape", "last", "chunks", "_", "first", "chunk", "offset", "name", "low", "high", "step", "index", "most"]) (sc := defScope sReadChunks) (by decide +kernel))
          (fun _ _ _ _ _ => pg_tupK K rfl (by rfl) (pgs_cons (pg_name (i := 8) scRC.nd rfl (Or.inl rfl)) (pgs_cons (pg_name (i := 9) scRC.nd rfl (Or.inl rfl)) (pgs_cons (pg_name (i := 10) scRC.nd rfl (Or.inl rfl)) (pgs_cons (pg_name (i := 11) scRC.nd rfl (Or.inl rfl)) pgs_nil)))))
          (fun _ _ _ _ _ => pts_nil) (fun _ _ _ _ _ => pe_op op_fdiv (pe_op op_sub (pv 10) (pv 9)) (pv 11)))
      (pss_cons (ps_set (i := 3) scRC.nd rfl (.inl rfl) (pe_lst pa_nil))
      (pss_cons (ps_for PassesOwn.never rfl (pi_range1 (by rfl) M.range (pa_cons (pe_meth0 (pv 0) T.cl Z.m4 G4 hr Z.b4 .nil pass0) pa_nil)) (pg_name (i := 4) scRC.nd rfl (.inl rfl))
        (pss_cons (ps_set (i := 5) scRC.nd rfl (.inl rfl) (pe_fld (pv 0) rfl))
        (pss_cons (ps_set (i := 6) scRC.nd rfl (.inl rfl) (pe_callTy call_tuple_of (by rfl) M.tuple (by decide +kernel) (pa_cons
            (pe_lc (own := [("_", 4)]) (g := gName 4) (tt := tYes) rfl scRC.nd (pi_tup (pe_fld (pv 1) rfl)) (blkOk_by (N := ["reader", "shape", "last", "chunks", "_", "first", "chunk", "offset", "name", "low", "high", "step", "index", "most"]) (sc := defScope sReadChunks) (by decide +kernel))
              (fun _ _ _ _ _ => pg_name (i := 4) scRC.nd rfl (Or.inl rfl)) (fun _ _ _ _ _ => pts_nil) (fun _ _ _ _ _ => pe_meth0 (pv 0) T.cl Z.m4 G4 hr Z.b4 .nil pass0)) pa_nil)))
        (pss_cons (ps_if (pt_not (pt_val (pe_callB (cr_all rfl) (by rfl) hall (by decide +kernel) (pa_cons
            (pe_lc (own := [("index", 12), ("most", 13)]) (g := gTup K 2 (gCons (gName 12) (gCons (gName 13) gNil))) (tt := tYes) rfl scRC.nd (pi_zipTL (by rfl) M.zip (pa_cons (pv 6) (pa_cons (pv 2) pa_nil))) (blkOk_by (N := ["reader", "shape", "last", "chunks", "_", "first", "chunk", "offset", "name", "low", "high", "step", "index", "most"]) (sc := defScope sReadChunks) (by decide +kernel))
              (fun _ _ _ _ _ => pg_tupK K rfl (by rfl) (pgs_cons (pg_name (i := 12) scRC.nd rfl (Or.inl rfl)) (pgs_cons (pg_name (i := 13) scRC.nd rfl (Or.inl rfl)) pgs_nil))) (fun _ _ _ _ _ => pts_nil) (fun _ _ _ _ _ => pe_cmpR op_le (pv 12) (pv 13) (nomark _))) pa_nil)))) pss_dead pss_nil)
        (pss_cons (ps_if (PW.pt (pw_and (pt_truth (pv 3) (by intro _; rfl)) (pw_and1 (pt_cmpR (op_geT hr.units0) (pe_ix ix_tup (pe_ix ix_list (pv 3) (pe_un un_neg pe_int) (fun _ _ => rfl)) pe_int (fun _ _ => rfl)) (pv 6) (nomark _))))) pss_dead pss_nil)
        (pss_cons (ps_set (i := 7) scRC.nd rfl (.inl rfl) (pe_meth0 (pv 0) T.cl Z.m4 G4 hr Z.b4 .nil pass0))
        (pss_one (ps_expr (pe_bm PySem.F.plainAttrs_list PySem.F.slot_list_append PySem.F.type_list_append mt_append (pv 3) (pa_cons (pe_tup (pa_cons (pv 6) (pa_cons (pv 7) (pa_cons (pe_meth0 (pv 0) T.cl Z.m4 G4 hr Z.b4 .nil pass0) pa_nil)))) pa_nil))))))))))
      (pss_one (ps_ret (pe_callTy call_tuple_of (by rfl) M.tuple (by decide +kernel) (pa_cons (pv 3) pa_nil)))))), ?_⟩
    have sh0 := sh
    obtain ⟨a, dx, v1, v2, rfl, ha, ⟨td, xs, rfl, htd, had⟩, _⟩ := sh
    have hxl := had.1
    have n1 : NoAttr K C "dims" := S.na _ (by decide +kernel)
    have gd0 := g.d0
    have nar : a ≠ r := by
      obtain ⟨dr, er⟩ := rd.i
      refine ne_of ha er ?_
      intro z
      injection z with _ _ z
      injection z with z _
      injection z with z _
      exact absurd z (by decide +kernel)
    have ntd : td ≠ r := by
      obtain ⟨dr, er⟩ := rd.i
      exact ne_of htd er (by intro z; cases z)
    refine ⟨fun σ H2 => ∃ pl, σ = [some (.ref r), some (.ref a), some (.ref pl), none, none, none, none, none, none, none, none, none, none, none] ∧ Same H H2 ∧ H2 pl = some (.lst ((ds.map mx).map V.int)), ?_, ?_⟩
    · refine ⟨_, rfl, a, C, dx, _, .ref td, rfl, ha, S.cl, n1, rfl, td, rfl, ⟨_, SqT.of htd⟩, fun D nD => lc_tup (xs := xs) (fun i H2 => Same H H2 ∧ H2 D = some (.lst (((ds.take i).map mx).map V.int))) ?_ ?_ ?_ ?_⟩
      · exact ⟨same_new nD, upd_same⟩
      · rintro i H2 hi ⟨s2, _⟩
        exact SqT.of (s2 _ _ htd)
      · rintro i x H2 hx ⟨s2, eD⟩
        have hi : i < ds.length := by
          rw [← hxl]
          exact (List.getElem?_eq_some_iff.mp hx).1
        obtain ⟨b, rfl, hb⟩ := had.at hi hx
        have gd := g.d _ (List.getElem_mem hi)
        have h3 := gd.s0
        have h4 := gd.s1
        refine ⟨b, _, rfl, SqT.of (s2 _ _ hb), rfl, _, _, rfl, _, _, rfl, _, _, rfl, _, _, rfl, rfl, rfl, ?_⟩
        dsimp only [tYes]
        rw [if_pos rfl]
        refine ⟨_, rfl, _, rfl, _, _, rfl, rfl, _, rfl, _, _, rfl, rfl, ⟨by omega, by omega⟩, _, eD, ?_, ?_, ?_⟩
        · rw [List.length_map, List.length_map, List.length_take]
          exact small1000 (by omega)
        · intro z o e
          rw [upd_ne (fun y => by rw [y, nD] at e; cases e)]
          exact s2 _ _ e
        · rw [upd_same, List.take_add_one, List.getElem?_eq_getElem hi, List.map_append, List.map_append]
          rfl
      · rintro H2 ⟨s2, eD⟩
        rw [hxl, List.take_length] at eD
        exact ⟨D, rfl, s2, eD⟩
    rintro σ H2 ⟨pl, rfl, s2, epl⟩
    have rd2 := rd.same s2
    have nplr : pl ≠ r := by
      obtain ⟨dr, er⟩ := rd2.i
      exact ne_of epl er (by intro z; cases z)
    refine ⟨Nat.zero_le _, fun pc npc => ?_⟩
    have npcH : H pc = none := s2.free npc
    have s3 : Same H2 (upd H2 pc (.lst [])) := same_new npc
    have rd3 := rd2.same s3
    obtain ⟨dr, er⟩ := rd3.i
    have hd1 : os.drop n = w4 (cs.length : Int) ++ (cs.flatMap eCk ++ rest) := by
      rw [hd]
      unfold eCs
      simp only [List.append_assoc]
    have gl := gc.len
    have npcr : pc ≠ r := fun z => by
      obtain ⟨dr2, er2⟩ := rd2.i
      rw [z, er2] at npc
      cases npc
    refine ⟨_, rfl, r, dr, _, rfl, er, rfl, r, lo, os, _, (cs.length : Int), n, rfl, rd3, hd1, by omega, by omega, fun H4 x4 rd4 => ?_⟩
    have hd2 := drop_add' hd1
    have hd2' : os.drop (n + 4) = cs.flatMap eCk ++ rest := hd2
    refine ⟨(cs.length : Int), rfl, by omega, by omega, for_range (lo := 0) (n := (cs.length : Int).toNat) (fun i σ H5 => ∃ y4 y5 y6 y7 ws, σ = [some (.ref r), some (.ref a), some (.ref pl), some (.ref pc), y4, y5, y6, y7, none, none, none, none, none, none] ∧ Ex H H5 r ∧ RdAt CO H5 r lo os (n + 4 + ((cs.take i).flatMap eCk).length) ∧ H5 pl = some (.lst ((ds.map mx).map V.int)) ∧ H5 pc = some (.lst ws) ∧ All (CkAt H5) ws (cs.take i)) ?_ ?_ ?_⟩
    · exact ⟨_, _, _, _, [], rfl, ((Same.ex s2).trans (Same.ex s3)).trans x4, rd4, x4 _ _ (s3 _ _ epl) nplr, x4 _ _ upd_same npcr, All.nil⟩
    · rintro i σ H5 hi ⟨y4, y5, y6, y7, ws, rfl, x5, rd5, epl5, epc5, al⟩
      have hi2 : i < cs.length := by omega
      have hdc := at_i hd2' hi2
      have gk := gc.ck _ (List.getElem_mem hi2)
      have hup : 0 < i → ∃ c', (cs.take i)[i - 1]? = some c' ∧ HT.lexLt c'.c cs[i].c = true := fun h => by
        refine ⟨cs[i - 1], ?_, ?_⟩
        · rw [List.getElem?_take_of_lt (by omega), List.getElem?_eq_getElem (by omega)]
        · have := gc.up (i - 1) (by omega)
          have e : i - 1 + 1 = i := by omega
          simp only [e] at this
          exact this
      have xl := al.1
      rw [List.length_take] at xl
      have en := len_i eCk (n := n + 4) hi2
      rw [List.take_add_one, List.getElem?_eq_getElem hi2] at en ⊢
      generalize cs[i] = c at hdc gk hup en ⊢
      rw [show (some c : Option Ck).toList = [c] from rfl] at en ⊢
      rw [← en]
      generalize n + 4 + ((cs.take i).flatMap eCk).length = m at rd5 hdc ⊢
      have cl := gk.len
      obtain ⟨dr5, er5⟩ := rd5.i
      have ha5 := x5 _ _ ha nar
      have htd5 := x5 _ _ htd ntd
      have kx : ∀ {H6 : Hp}, Ex H5 H6 r → H6 a = some (.ins C dx [("dims", .ref td), ("attrs", v2)]) ∧ H6 td = some (.tup xs) ∧ H6 pl = some (.lst ((ds.map mx).map V.int)) ∧ H6 pc = some (.lst ws) := fun y => ⟨y _ _ ha5 nar, y _ _ htd5 ntd, y _ _ epl5 nplr, y _ _ epc5 npcr⟩
      refine ⟨_, rfl, r, CO, dr5, _, .int (m : Int), rfl, er5, T.cl, T.na _ (by decide +kernel), rfl, ?_⟩
      refine ⟨_, rfl, a, C, dx, _, .ref td, rfl, ha5, S.cl, n1, rfl, td, rfl, ⟨_, SqT.of htd5⟩, fun D nD => lc_tup (xs := xs) (fun j H6 => Ex H5 H6 r ∧ RdAt CO H6 r lo os (m + (((c.c ++ [c.o, c.l]).take j).flatMap w4).length) ∧ H6 D = some (.lst ((c.c.take j).map V.int))) ?_ ?_ ?_ ?_⟩
      · exact ⟨Same.ex (same_new nD), rd5.same (same_new nD), upd_same⟩
      · rintro j H6 hj ⟨x6, _⟩
        exact SqT.of (kx x6).2.1
      · rintro j x H6 hx ⟨x6, rd6, eD⟩
        have hj : j < c.c.length := by
          rw [cl, ← hxl]
          exact (List.getElem?_eq_some_iff.mp hx).1
        have hj2 : j < (c.c ++ [c.o, c.l]).length := by
          rw [List.length_append]
          omega
        refine ⟨rfl, ?_⟩
        dsimp only [tYes]
        rw [if_pos rfl]
        have hdj := at_i (f := w4) (l := c.c ++ [c.o, c.l]) hdc hj2
        have nDr : D ≠ r := fun z => by rw [z, er5] at nD; cases nD
        have b := gk.ix j hj (cl ▸ hj)
        have b2 := mx_le (g.d _ (List.getElem_mem (cl ▸ hj : j < ds.length)))
        have ej : (c.c ++ [c.o, c.l])[j] = c.c[j] := List.getElem_append_left hj
        have en2 := len_i w4 (n := m) hj2
        rw [ej] at hdj en2
        obtain ⟨dr6, er6⟩ := rd6.i
        refine ⟨_, rfl, r, dr6, _, rfl, er6, rfl, r, lo, os, _, c.c[j], _, rfl, rd6, hdj, b.1, by omega, fun H7 x7 rd7 => ⟨_, x7 _ _ eD nDr, ?_, ?_, ?_, ?_⟩⟩
        · rw [List.length_map, List.length_take]
          exact small1000 (by omega)
        · intro z o e nz
          rw [upd_ne (fun y => by rw [y, nD] at e; cases e)]
          exact x7 _ _ (x6 _ _ e nz) nz
        · rw [← en2]
          obtain ⟨dr7, er7⟩ := rd7.i
          exact ⟨⟨dr7, by rw [upd_ne nDr.symm]; exact er7⟩, by rw [upd_ne (ne_of_none rd5.o nD)]; exact rd7.o, rd7.le⟩
        · rw [upd_same, List.take_add_one, List.getElem?_eq_getElem hj, List.map_append]
          rfl
      · rintro H6 ⟨x6, rd6, eD⟩
        rw [hxl, ← cl, List.take_length] at eD
        rw [hxl, ← cl, List.take_left] at rd6
        obtain ⟨ha6, htd6, epl6, epc6⟩ := kx x6
        refine ⟨D, _, rfl, .inl ⟨.inl (.inl eD), fun t nt => ?_⟩⟩
        have s7 := same_new (o := .tup (c.c.map V.int)) nt
        have hl : (c.c.map V.int).length = ((ds.map mx).map V.int).length := by rw [List.length_map, List.length_map, List.length_map, cl]
        refine ⟨_, rfl, _, rfl, t, pl, _, _, rfl, ⟨SqT.of upd_same, .inl (.inl (s7 _ _ epl6))⟩, fun D2 nD2 => lc_it (walk_zipTL hl) (fun j H8 => Same (upd H6 t (.tup (c.c.map V.int))) H8 ∧ H8 D2 = some (.lst ((List.replicate j true).map V.bl))) ⟨same_new nD2, upd_same⟩ ?_ ?_ ?_⟩
        · rintro j H8 hj ⟨s8, _⟩
          exact ⟨SqT.of (s8 _ _ upd_same), .inl (.inl (s8 _ _ (s7 _ _ epl6)))⟩
        · rintro j x H8 H8' hj ⟨s8, e8⟩ ⟨T2, x1, x2, rfl, nT, rfl, f1, f2⟩
          rw [List.length_map] at hj
          have hj3 : j < ds.length := cl ▸ hj
          have f1 : (c.c.map V.int)[j]? = some x1 := f1
          have f2 : ((ds.map mx).map V.int)[j]? = some x2 := f2
          rw [List.getElem?_map, List.getElem?_eq_getElem hj] at f1
          rw [List.getElem?_map, List.getElem?_map, List.getElem?_eq_getElem hj3] at f2
          obtain rfl := Option.some.inj f1
          obtain rfl := Option.some.inj f2
          have b := gk.ix j hj hj3
          refine ⟨T2, _, rfl, SqT.of upd_same, rfl, _, _, rfl, _, _, rfl, rfl, rfl, ?_⟩
          dsimp only [tYes]
          rw [if_pos rfl]
          refine ⟨_, rfl, _, rfl, _, _, rfl, rfl, _, same_new nT _ _ e8, ?_, ?_, ?_⟩
          · rw [List.length_map, List.length_replicate]
            exact small1000 (by omega)
          · intro z o e
            rw [upd_ne (fun y => by rw [y, nD2] at e; cases e)]
            exact same_new nT _ _ (s8 _ _ e)
          · have y : (fun i j : Int => V.bl (decide (i ≤ j))) c.c[j] (mx ds[j]) = V.bl true := congrArg V.bl (decide_eq_true b.2)
            rw [upd_same, y, List.replicate_succ', List.map_append]
            rfl
        · rintro H8 ⟨s8, e8⟩
          refine ⟨D2, _, rfl, .inl (.inl e8), ?_⟩
          rw [show (List.replicate (c.c.map V.int).length true).all id = true from by rw [List.all_eq_true]; exact fun z hz => (List.eq_of_mem_replicate hz)]
          have s68 : Same H6 H8 := s7.trans s8
          have x58 : Ex H5 H8 r := x6.same s68
          have rd8 := rd6.same s68
          obtain ⟨ha8, htd8, epl8, epc8⟩ := kx x58
          have et8 : H8 t = some (.tup (c.c.map V.int)) := s8 _ _ upd_same
          refine ⟨true, rfl, iteF ⟨_, rfl, !ws.isEmpty, .inl ⟨ws, .inl (.inl epc8), rfl⟩, andF (fun hb k => ?_) (iteF ?_)⟩⟩
          · have hp : 0 < i := by
              rcases Nat.eq_zero_or_pos i with z | z
              · have : ws = [] := List.eq_nil_of_length_eq_zero (by omega)
                rw [this] at hb
                cases hb
              · exact z
            obtain ⟨c', hc', hlt⟩ := hup hp
            obtain ⟨y, hy, cy⟩ := al.2 _ _ hc'
            obtain ⟨b', u', rfl, f1, f2⟩ := cy.ex x58 rd5
            refine ⟨_, rfl, 1, rfl, pc, ws, -1, .ref b', rfl, rfl, .inl (.inl epc8), atI_neg1 (by rw [show ws.length - 1 = i - 1 from by omega]; exact hy), b', _, 0, .ref u', rfl, rfl, SqT.of f1, rfl, _, rfl, u', t, c'.c, c.c, rfl, rfl, SqT.of f2, SqT.of et8, _, rfl, ?_⟩
            rw [hlt]
            exact k
          · obtain ⟨dr8, er8⟩ := rd8.i
            have hdc2 : os.drop m = c.c.flatMap w4 ++ (w4 c.o ++ (w4 c.l ++ ((cs.drop (i + 1)).flatMap eCk ++ rest))) := by
              rw [hdc]
              unfold eCk
              rw [List.flatMap_append]
              simp only [List.append_assoc, List.flatMap_cons, List.flatMap_nil, List.append_nil, List.nil_append]
            have hdo := drop_add' hdc2
            have hdl := drop_add' hdo
            refine ⟨_, rfl, r, dr8, _, rfl, er8, rfl, r, lo, os, _, c.o, _, rfl, rd8, hdo, gk.o.1, gk.o.2, fun H9 x9 rd9 => ?_⟩
            obtain ⟨dr9, er9⟩ := rd9.i
            have x59 := x58.trans x9
            refine ⟨_, rfl, .inl ⟨rfl, _, .inl (.inl (kx x59).2.2.2)⟩, _, rfl, _, rfl, _, rfl, r, dr9, _, rfl, er9, rfl, r, lo, os, _, c.l, _, rfl, rd9, hdl, gk.l.1, gk.l.2, fun H10 x10 rd10 => ⟨(by show 3 ≤ sizeLine; decide), fun t2 nt2 => ?_⟩⟩
            have x510 := x59.trans x10
            obtain ⟨ha10, htd10, epl10, epc10⟩ := kx x510
            have s11 := same_new (o := .tup [.ref t, .int c.o, .int c.l]) nt2
            have ntr : t ≠ r := ne_of et8 er8 (by intro z; cases z)
            have et10 : H10 t = some (.tup (c.c.map V.int)) := x10 _ _ (x9 _ _ et8 ntr) ntr
            have epc11 := s11 _ _ epc10
            refine ⟨pc, ws, .ref t2, rfl, rfl, epc11, big (by omega), _, _, _, _, ws ++ [.ref t2], rfl, fun z o e nz => ?_, ?_, ?_, upd_same, ?_⟩
            · rw [upd_ne (fun y => by rw [y, npcH] at e; cases e)]
              exact s11 _ _ (x510 _ _ (x5 _ _ e nz) nz)
            · have em : m + (c.c.flatMap w4).length + (w4 c.o).length + (w4 c.l).length = m + (eCk c).length := by
                unfold eCk
                rw [List.flatMap_append, List.length_append]
                show _ = m + (_ + (w4 c.o ++ (w4 c.l ++ [])).length)
                rw [List.length_append, List.length_append]
                show _ = m + (_ + (_ + (_ + 0)))
                omega
              have rd11 := rd10.same s11
              have e4 : m + (c.c.flatMap w4).length + 4 + 4 = m + (eCk c).length := em
              rw [e4] at rd11
              obtain ⟨dr11, er11⟩ := rd11.i
              exact ⟨⟨dr11, by rw [upd_ne npcr.symm]; exact er11⟩, by rw [upd_ne (ne_of_none rd.o npcH)]; exact rd11.o, rd11.le⟩
            · rw [upd_ne (ne_of_none epl npc)]
              exact s11 _ _ epl10
            · have kt := kt_upd (ys := ws ++ [.ref t2]) epc11
              exact All.push (al.imp fun y c h => ((h.ex x510 rd5).same s11).kt kt) ⟨t2, t, rfl, kt _ _ upd_same (fun _ z => nomatch z), kt _ _ (s11 _ _ et10) (fun _ z => nomatch z)⟩
    · rintro σ H5 ⟨y4, y5, y6, y7, ws, rfl, x5, rd5, epl5, epc5, al⟩
      rw [show (cs.length : Int).toNat = cs.length from by omega, List.take_length] at rd5 al
      refine ⟨_, rfl, pc, ws, rfl, .inl ⟨.inl (.inl epc5), fun t nt => ?_⟩⟩
      have s6 := same_new (o := .tup ws) nt
      refine q _ _ (x5.same s6) ?_ ⟨t, ws, rfl, upd_same, al.imp fun y c h => h.same s6⟩
      have := rd5.same s6
      have el : n + (eCs cs).length = n + 4 + (cs.flatMap eCk).length := by
        unfold eCs
        rw [List.length_append]
        show n + (4 + _) = _
        omega
      rw [el]
      exact this
end
end K2

namespace K2
open PySem L2
structure GAr (r : Ar) : Prop where
  nm : r.n ∈ NMS
  sh : GSh r.ds r.ts
  cs : GCs r.ds r.cs
structure GAs (as : List Ar) : Prop where
  len : as.length ≤ 1000000
  ar : ∀ r ∈ as, GAr r
  up : ∀ (i : Nat) (h : i + 1 < as.length), as[i].n.cps.toList < as[i + 1].n.cps.toList
theorem ArAt.ex {CO C : Addr} {H H1 : Hp} {r lo : Addr} {os : List Int} {n : Nat} {x : V} {c : Ar} (h : ArAt H C x c) (e : Ex H H1 r) (rd : RdAt CO H r lo os n) : ArAt H1 C x c := by
  obtain ⟨a, u, v, e1, e2, e3, ⟨b, xs, f1, f2, f3⟩⟩ := h
  obtain ⟨dr, er⟩ := rd.i
  exact ⟨a, u, v, e1, e _ _ e2 (ne_of e2 er (by intro z; cases z)), e3.ex e rd, b, xs, f1, e _ _ f2 (ne_of f2 er (by intro z; cases z)), f3.imp fun _ _ z => z.ex e rd⟩
theorem TupAt.exC {CO : Addr} {H H1 : Hp} {r lo : Addr} {os : List Int} {n : Nat} {x : V} {cs : List Ck} (h : TupAt H (CkAt H) x cs) (e : Ex H H1 r) (rd : RdAt CO H r lo os n) : TupAt H1 (CkAt H1) x cs := by
  obtain ⟨b, xs, f1, f2, f3⟩ := h
  obtain ⟨dr, er⟩ := rd.i
  exact ⟨b, xs, f1, e _ _ f2 (ne_of f2 er (by intro z; cases z)), f3.imp fun _ _ z => z.ex e rd⟩
def eAs (as : List Ar) : List Int := w4 (as.length : Int) ++ as.flatMap eAr
section
variable {P : Program} {w : World} {K : PySem.W.Frag} {mg : Str → Option Value} {base : Heap}
def spRAs (CO C : Addr) : Sp := fun vs H Q _ => ∃ (r lo : Addr) (os rest : List Int) (n : Nat) (as : List Ar), vs = [.ref r] ∧ RdAt CO H r lo os n ∧ os.drop n = eAs as ++ rest ∧ GAs as ∧
  ∀ H' t, Ex H H' r → RdAt CO H' r lo os (n + (eAs as).length) → TupAt H' (ArAt H' C) t as → Q t H'
theorem scRAs : FnScope ["reader", "arrays", "_", "first", "name", "shape"] ["reader"] (defScope sReadArrays) := ⟨rfl, rfl, rfl, by decide +kernel, rfl, by decide +kernel, by decide +kernel⟩
theorem ok_ras {f fN fS fC CO C : Addr} {fd fdN fdS fdC : FuncData} (F : Fun K "read_arrays" "read_arrays" sReadArrays f fd) (M : Nm mg) (Z : RF P w K mg base CO)
    (GN : FnOk P w K mg base CX0 3 fN fdN ["reader"] (spRN CO)) (kN : PySem.W.keepIn K (.ref fN) = true) (bN : Binds K fdN ["reader"] []) (gN : mg "read_name" = some (.ref fN))
    (GS : FnOk P w K mg base CX0 5 fS fdS ["reader"] (spRS CO C)) (kS : PySem.W.keepIn K (.ref fS) = true) (bS : Binds K fdS ["reader"] []) (gS : mg "read_shape" = some (.ref fS))
    (GC : FnOk P w K mg base CX0 3 fC fdC ["reader", "shape"] (spRC CO C)) (kC : PySem.W.keepIn K (.ref fC) = true) (bC : Binds K fdC ["reader", "shape"] []) (gC : mg "read_chunks" = some (.ref fC)) : FnOk P w K mg base CX0 6 f fd ["reader"] (spRAs CO C) := by
  have G4 := Z.G4
  have T := Z.T
  refine F.ok scRAs (fun vs H Q E h => ?_) (fun cdv A outer s H vs Q E hr h => ?_)
  · obtain ⟨r, lo, os, rest, n, as, rfl, _⟩ := h
    rfl
  · obtain ⟨r, lo, os, rest, n, as, rfl, rd, hd, g, q⟩ := h
    have hr2 := hr.mono (j := 2) (by decide)
    have hr3 := hr.mono (j := 3) (by decide)
    refine ⟨_, pss_cons (ps_set (i := 1) scRAs.nd rfl (.inl rfl) (pe_lst pa_nil))
      (pss_cons (ps_for PassesOwn.never rfl (pi_range1 (by rfl) M.range (pa_cons (pe_meth0 (pv 0) T.cl Z.m4 G4 hr2 Z.b4 .nil pass0) pa_nil)) (pg_name (i := 2) scRAs.nd rfl (.inl rfl))
        (pss_cons (ps_set (i := 3) scRAs.nd rfl (.inl rfl) (pe_fld (pv 0) rfl))
        (pss_cons (ps_set (i := 4) scRAs.nd rfl (.inl rfl) (pe_call GN hr3 (by rfl) gN kN bN .nil pass0 (pa_cons (pv 0) pa_nil)))
        (pss_cons (ps_if (PW.pt (pw_and (pt_truth (pv 1) (by intro _; rfl)) (pw_and1 (pt_cmpR op_ge_str (pe_ix ix_tup (pe_ix ix_list (pv 1) (pe_un un_neg pe_int) (fun _ _ => rfl)) pe_int (fun _ _ => rfl)) (pv 4) (nomark _))))) pss_dead pss_nil)
        (pss_cons (ps_set (i := 5) scRAs.nd rfl (.inl rfl) (pe_call GS hr (by rfl) gS kS bS .nil pass0 (pa_cons (pv 0) pa_nil)))
        (pss_one (ps_expr (pe_bm PySem.F.plainAttrs_list PySem.F.slot_list_append PySem.F.type_list_append mt_append (pv 1) (pa_cons (pe_tup (pa_cons (pv 4) (pa_cons (pv 5) (pa_cons (pe_call GC hr3 (by rfl) gC kC bC .nil pass0 (pa_cons (pv 0) (pa_cons (pv 5) pa_nil))) pa_nil)))) pa_nil)))))))))
      (pss_one (ps_ret (pe_callTy call_tuple_of (by rfl) M.tuple (by decide +kernel) (pa_cons (pv 1) pa_nil))))), ?_⟩
    refine ⟨Nat.zero_le _, fun pc npc => ?_⟩
    have s3 : Same H (upd H pc (.lst [])) := same_new npc
    have rd3 := rd.same s3
    obtain ⟨dr, er⟩ := rd3.i
    have hd1 : os.drop n = w4 (as.length : Int) ++ (as.flatMap eAr ++ rest) := by
      rw [hd]
      unfold eAs
      simp only [List.append_assoc]
    have gl := g.len
    have npcr : pc ≠ r := fun z => by
      obtain ⟨dr2, er2⟩ := rd.i
      rw [z, er2] at npc
      cases npc
    refine ⟨_, rfl, r, dr, _, rfl, er, rfl, r, lo, os, _, (as.length : Int), n, rfl, rd3, hd1, by omega, by omega, fun H4 x4 rd4 => ?_⟩
    have hd2' : os.drop (n + 4) = as.flatMap eAr ++ rest := drop_add' hd1
    refine ⟨(as.length : Int), rfl, by omega, by omega, for_range (lo := 0) (n := (as.length : Int).toNat) (fun i σ H5 => ∃ y2 y3 y4 y5 ws, σ = [some (.ref r), some (.ref pc), y2, y3, y4, y5] ∧ Ex H H5 r ∧ RdAt CO H5 r lo os (n + 4 + ((as.take i).flatMap eAr).length) ∧ H5 pc = some (.lst ws) ∧ All (ArAt H5 C) ws (as.take i)) ?_ ?_ ?_⟩
    · exact ⟨_, _, _, _, [], rfl, (Same.ex s3).trans x4, rd4, x4 _ _ upd_same npcr, All.nil⟩
    · rintro i σ H5 hi ⟨y2, y3, y4, y5, ws, rfl, x5, rd5, epc5, al⟩
      have hi2 : i < as.length := by omega
      have hda := at_i hd2' hi2
      have ga := g.ar _ (List.getElem_mem hi2)
      have hup : 0 < i → ∃ c', (as.take i)[i - 1]? = some c' ∧ c'.n.cps.toList < as[i].n.cps.toList := fun h => by
        refine ⟨as[i - 1], ?_, ?_⟩
        · rw [List.getElem?_take_of_lt (by omega), List.getElem?_eq_getElem (by omega)]
        · have := g.up (i - 1) (by omega)
          have e : i - 1 + 1 = i := by omega
          simp only [e] at this
          exact this
      have xl := al.1
      rw [List.length_take] at xl
      have en := len_i eAr (n := n + 4) hi2
      rw [List.take_add_one, List.getElem?_eq_getElem hi2] at en ⊢
      generalize as[i] = c at hda ga hup en ⊢
      rw [show (some c : Option Ar).toList = [c] from rfl] at en ⊢
      rw [← en]
      generalize n + 4 + ((as.take i).flatMap eAr).length = m at rd5 hda ⊢
      have hda1 : os.drop m = wn c.n ++ (eSh c.ds c.ts ++ (eCs c.cs ++ ((as.drop (i + 1)).flatMap eAr ++ rest))) := by
        rw [hda]
        unfold eAr
        simp only [List.append_assoc]
      have hda2 := drop_add' hda1
      have hda3 := drop_add' hda2
      obtain ⟨dr5, er5⟩ := rd5.i
      refine ⟨_, rfl, r, CO, dr5, _, .int (m : Int), rfl, er5, T.cl, T.na _ (by decide +kernel), rfl, ?_⟩
      refine ⟨_, rfl, r, lo, os, _, m, c.n, rfl, rd5, hda1, ga.nm, fun H6 x6 rd6 => ?_⟩
      have epc6 := x6 _ _ epc5 npcr
      refine ⟨_, rfl, !ws.isEmpty, .inl ⟨ws, .inl (.inl epc6), rfl⟩, andF (fun hb k => ?_) (iteF ?_)⟩
      · have hp : 0 < i := by
          rcases Nat.eq_zero_or_pos i with z | z
          · have : ws = [] := List.eq_nil_of_length_eq_zero (by omega)
            rw [this] at hb
            cases hb
          · exact z
        obtain ⟨c', hc', hlt⟩ := hup hp
        obtain ⟨y, hy, cy⟩ := al.2 _ _ hc'
        obtain ⟨b', u', v', rfl, f1, _⟩ := cy.ex x6 rd5
        refine ⟨_, rfl, 1, rfl, pc, ws, -1, .ref b', rfl, rfl, .inl (.inl epc6), atI_neg1 (by rw [show ws.length - 1 = i - 1 from by omega]; exact hy), b', _, 0, .str c'.n, rfl, rfl, SqT.of f1, rfl, _, rfl, c'.n, c.n, rfl, rfl, _, rfl, ?_⟩
        rw [decide_eq_true hlt]
        exact k
      · refine ⟨_, rfl, r, lo, os, _, _, c.ds, c.ts, rfl, rd6, hda2, ga.sh, fun H7 v x7 rd7 sh7 => ?_⟩
        have epc7 := x7 _ _ epc6 npcr
        refine ⟨_, rfl, .inl ⟨rfl, _, .inl (.inl epc7)⟩, _, rfl, _, rfl, _, rfl, _, rfl, r, lo, v, os, _, _, c.ds, c.ts, c.cs, rfl, rd7, hda3, sh7, ga.sh, ga.cs, fun H8 t x8 rd8 ck8 => ⟨(by show 3 ≤ sizeLine; decide), fun t2 nt2 => ?_⟩⟩
        have x58 := x6.trans (x7.trans x8)
        have s11 := same_new (o := .tup [.str c.n, v, t]) nt2
        have epc11 := s11 _ _ (x8 _ _ epc7 npcr)
        refine ⟨pc, ws, .ref t2, rfl, rfl, epc11, big (by omega), _, _, _, _, ws ++ [.ref t2], rfl, fun z o e nz => ?_, ?_, upd_same, ?_⟩
        · rw [upd_ne (fun y => by rw [y, npc] at e; cases e)]
          exact s11 _ _ (x58 _ _ (x5 _ _ e nz) nz)
        · have em : m + (wn c.n).length + (eSh c.ds c.ts).length + (eCs c.cs).length = m + (eAr c).length := by
            unfold eAr
            rw [List.length_append, List.length_append]
            omega
          have rd11 := rd8.same s11
          rw [em] at rd11
          obtain ⟨dr11, er11⟩ := rd11.i
          exact ⟨⟨dr11, by rw [upd_ne npcr.symm]; exact er11⟩, by rw [upd_ne (ne_of_none rd.o npc)]; exact rd11.o, rd11.le⟩
        · have kt := kt_upd (ys := ws ++ [.ref t2]) epc11
          exact All.push (al.imp fun y c h => ((h.ex x58 rd5).same s11).kt kt) ⟨t2, v, t, rfl, kt _ _ upd_same (fun _ z => nomatch z), ((sh7.ex x8 rd7).same s11).kt kt, ((ck8.same s11 fun _ _ z => z.same s11).kt kt fun _ _ z => z.kt kt)⟩
    · rintro σ H5 ⟨y2, y3, y4, y5, ws, rfl, x5, rd5, epc5, al⟩
      rw [show (as.length : Int).toNat = as.length from by omega, List.take_length] at rd5 al
      refine ⟨_, rfl, pc, ws, rfl, .inl ⟨.inl (.inl epc5), fun t nt => ?_⟩⟩
      have s6 := same_new (o := .tup ws) nt
      refine q _ _ (x5.same s6) ?_ ⟨t, ws, rfl, upd_same, al.imp fun y c h => h.same s6⟩
      have := rd5.same s6
      have el : n + (eAs as).length = n + 4 + (as.flatMap eAr).length := by
        unfold eAs
        rw [List.length_append]
        show n + (4 + _) = _
        omega
      rw [el]
      exact this
end
end K2

namespace K2
open PySem L2
theorem sm_lt : ∀ (os : List Int) (a : Int × Int), 0 ≤ a.1 → a.1 < 65521 → 0 ≤ a.2 → a.2 < 65521 → (0 ≤ (os.foldl sm a).1 ∧ (os.foldl sm a).1 < 65521) ∧ 0 ≤ (os.foldl sm a).2 ∧ (os.foldl sm a).2 < 65521
  | [], a, h1, h2, h3, h4 => ⟨⟨h1, h2⟩, h3, h4⟩
  | o :: os, a, _, _, _, _ => sm_lt os (sm a o) (Int.emod_nonneg _ (by decide)) (Int.emod_lt_of_pos _ (by decide)) (Int.emod_nonneg _ (by decide)) (Int.emod_lt_of_pos _ (by decide))
theorem sumO_lt (os : List Int) : 0 ≤ sumO os ∧ sumO os < 4294967296 := by
  have h := sm_lt os (1, 0) (by decide) (by decide) (by decide) (by decide)
  unfold sumO
  dsimp only
  omega
structure GVe (up : Int) (r : Ve) : Prop where
  lo : 1 ≤ r.no
  hi : r.no ≤ up - 1
  as : GAs r.as
structure GRt (up da : Int) (vs : List Ve) : Prop where
  u : 1 ≤ up ∧ up < 4294967296
  d : 0 ≤ da ∧ da < 4294967296
  len : vs.length ≤ 1000000
  ve : ∀ r ∈ vs, GVe up r
  asc : ∀ (i : Nat) (h : i + 1 < vs.length), vs[i].no < vs[i + 1].no
theorem eVe_eq (r : Ve) : eVe r = w4 r.no ++ eAs r.as := by
  unfold eVe eAs
  rw [List.append_assoc]
theorem VeAt.ex {CO C : Addr} {H H1 : Hp} {r lo : Addr} {os : List Int} {n : Nat} {x : V} {c : Ve} (h : VeAt H C x c) (e : Ex H H1 r) (rd : RdAt CO H r lo os n) : VeAt H1 C x c := by
  obtain ⟨a, v, e1, e2, ⟨b, xs, f1, f2, f3⟩⟩ := h
  obtain ⟨dr, er⟩ := rd.i
  exact ⟨a, v, e1, e _ _ e2 (ne_of e2 er (by intro z; cases z)), b, xs, f1, e _ _ f2 (ne_of f2 er (by intro z; cases z)), f3.imp fun _ _ z => z.ex e rd⟩
structure Ct6 (mg : Str → Option Value) : Prop where
  gn : ∃ v, mg "GREATEST_NUMBER" = some v ∧ RelV (.int 4294967295) v
section
variable {P : Program} {w : World} {K : PySem.W.Frag} {mg : Str → Option Value} {base : Heap}
def spDR (CR C : Addr) : Sp := fun vs H Q _ => ∃ (l0 : Addr) (up da : Int) (rs : List Ve), vs = [.ref l0] ∧ H l0 = some (.lst ((eRt up da rs ++ w4 (sumO (eRt up da rs))).map V.int)) ∧ GRt up da rs ∧
  ∀ H' v, Same H H' → RtAt H' CR C v up da rs → Q v H'
theorem scDR : FnScope ["octets", "reader", "octet", "upcoming", "data", "versions", "_", "earlier", "number", "first", "total"] ["octets"] (defScope sDecodeRoot) := ⟨rfl, rfl, rfl, by decide +kernel, rfl, by decide +kernel, by decide +kernel⟩
theorem ok_dr {f fO fE fA fU fR CO CR C : Addr} {fd fdO fdE fdA fdU fdR : FuncData} (F : Fun K "decode_root" "decode_root" sDecodeRoot f fd) (M : Nm mg) (Y : Ct3 K mg) (Y6 : Ct6 mg) (Z : RF P w K mg base CO) (TO : KC K CO fO ORf)
    (GO : FnOk P w K mg base CX0 1 fO fdO ["self", "octets"] (spORI K CO)) (bO : Binds K fdO ["self", "octets"] []) (gO : mg "OctetReader" = some (.ref CO))
    (GE : FnOk P w K mg base CX0 1 fE fdE ["self"] (spEnd CO)) (bE : Binds K fdE ["self"] []) (mE : Meth K CO "is_at_end" fE)
    (GA : FnOk P w K mg base CX0 6 fA fdA ["reader"] (spRAs CO C)) (kA : PySem.W.keepIn K (.ref fA) = true) (bA : Binds K fdA ["reader"] []) (gA : mg "read_arrays" = some (.ref fA))
    (GU : FnOk P w K mg base CX0 1 fU fdU ["octets"] (spSum K)) (kU : PySem.W.keepIn K (.ref fU) = true) (bU : Binds K fdU ["octets"] []) (gU : mg "sum_of" = some (.ref fU))
    (R : KC K CR fR RHf) (GR : FnOk P w K mg base CX0 1 fR fdR ["self", "upcoming", "data", "versions"] (RIn CR C)) (bR : Binds K fdR ["self", "upcoming", "data", "versions"] []) (gR : mg "Root" = some (.ref CR)) : FnOk P w K mg base CX0 7 f fd ["octets"] (spDR CR C) := by
  have G4 := Z.G4
  have Gi := Z.Gi
  have Gf := Z.GO
  have T := Z.T
  refine F.ok scDR (fun vs H Q E h => ?_) (fun cdv A outer s H vs Q E hr h => ?_)
  · obtain ⟨l0, up, da, rs, rfl, _⟩ := h
    rfl
  · obtain ⟨l0, up, da, rs, rfl, h0, g, q⟩ := h
    have hr1 := hr.mono (j := 1) (by decide)
    have hr2 := hr.mono (j := 2) (by decide)
    have hr3 := hr.mono (j := 3) (by decide)
    obtain ⟨kf, mf, hf⟩ := Y.first
    obtain ⟨gv, mgv, rgv⟩ := Y6.gn
    refine ⟨_, pss_cons (ps_set (i := 1) scDR.nd rfl (.inl rfl) (pe_make TO.mkC GO hr2 (by rfl) gO bO .nil pass0 (pa_cons (pv 0) pa_nil)))
      (pss_cons (ps_for PassesOwn.never rfl (pi_tup (pe_glob (v := .ref kf) (by rfl) mf rfl)) (pg_name (i := 2) scDR.nd rfl (.inl rfl))
        (pss_one (ps_expr (pe_meth (pv 1) T.cl Z.mO Gf hr2 Z.bO .nil pass0 (pa_cons (pe_tup (pa_cons (pv 2) pa_nil)) pa_nil)))))
      (pss_cons (ps_set (i := 3) scDR.nd rfl (.inl rfl) (pe_meth (pv 1) T.cl Z.mi Gi hr3 Z.bi .nil pass0 (pa_cons pe_int (pa_cons (pe_glob (by rfl) mgv rgv) pa_nil))))
      (pss_cons (ps_set (i := 4) scDR.nd rfl (.inl rfl) (pe_meth0 (pv 1) T.cl Z.m4 G4 hr2 Z.b4 .nil pass0))
      (pss_cons (ps_set (i := 5) scDR.nd rfl (.inl rfl) (pe_lst pa_nil))
      (pss_cons (ps_for PassesOwn.never rfl (pi_range1 (by rfl) M.range (pa_cons (pe_meth0 (pv 1) T.cl Z.m4 G4 hr2 Z.b4 .nil pass0) pa_nil)) (pg_name (i := 6) scDR.nd rfl (.inl rfl))
        (Evl.pss_cut (ps_set (i := 7) scDR.nd rfl (.inl rfl) (pe_ifExp (pt_truth (pv 5) (by intro _; rfl)) (pe_ix ix_tup (pe_ix ix_list (pv 5) (pe_un un_neg pe_int) (fun _ _ => rfl)) pe_int (fun _ _ => rfl)) pe_int))
        (pss_cons (ps_set (i := 8) scDR.nd rfl (.inl rfl) (pe_meth (pv 1) T.cl Z.mi Gi hr3 Z.bi .nil pass0 (pa_cons (pe_op op_add (pv 7) pe_int) (pa_cons (pe_op op_sub (pv 3) pe_int) pa_nil))))
        (pss_one (ps_expr (pe_bm PySem.F.plainAttrs_list PySem.F.slot_list_append PySem.F.type_list_append mt_append (pv 5) (pa_cons (pe_tup (pa_cons (pv 8) (pa_cons (pe_call GA hr (by rfl) gA kA bA .nil pass0 (pa_cons (pv 1) pa_nil)) pa_nil))) pa_nil)))))))
      (pss_cons (ps_set (i := 9) scDR.nd rfl (.inl rfl) (pe_fld (pv 1) rfl))
      (pss_cons (ps_set (i := 10) scDR.nd rfl (.inl rfl) (pe_call GU hr1 (by rfl) gU kU bU .nil pass0 (pa_cons (pe_slice sl_list (pv 0) po_none (po_some (pv 9))) pa_nil)))
      (pss_cons (ps_expr (pe_meth (pv 1) T.cl Z.mi Gi hr3 Z.bi .nil pass0 (pa_cons (pv 10) (pa_cons (pv 10) pa_nil))))
      (pss_cons (ps_if (pt_not (pt_val (pe_meth0 (pv 1) T.cl mE GE hr1 bE .nil pass0))) pss_dead pss_nil)
      (pss_one (ps_ret (pe_make R.mkC GR hr2 (by rfl) gR bR .nil pass0 (pa_cons (pv 3) (pa_cons (pv 4) (pa_cons (pe_callTy call_tuple_of (by rfl) M.tuple (by decide +kernel) (pa_cons (pv 5) pa_nil)) pa_nil))))))))))))))), ?_⟩
    obtain ⟨os, hos⟩ : ∃ os, os = eRt up da rs ++ w4 (sumO (eRt up da rs)) := ⟨_, rfl⟩
    rw [← hos] at h0
    have hsum := sumO_lt (eRt up da rs)
    have hd0 : os.drop 0 = [77, 83] ++ (w4 up ++ (w4 da ++ (w4 (rs.length : Int) ++ (rs.flatMap eVe ++ w4 (sumO (eRt up da rs)))))) := by
      rw [List.drop_zero, hos]
      conv => lhs; arg 1; unfold eRt
      simp only [List.append_assoc]
    have hd2 : os.drop 2 = w4 up ++ (w4 da ++ (w4 (rs.length : Int) ++ (rs.flatMap eVe ++ w4 (sumO (eRt up da rs))))) := drop_add' hd0
    have hd6 : os.drop (2 + 4) = w4 da ++ (w4 (rs.length : Int) ++ (rs.flatMap eVe ++ w4 (sumO (eRt up da rs)))) := drop_add' hd2
    have hdA : os.drop (2 + 4 + 4) = w4 (rs.length : Int) ++ (rs.flatMap eVe ++ w4 (sumO (eRt up da rs))) := drop_add' hd6
    have hdE : os.drop (2 + 4 + 4 + 4) = rs.flatMap eVe ++ w4 (sumO (eRt up da rs)) := drop_add' hdA
    have gu := g.u
    have gd := g.d
    have gl := g.len
    refine ⟨_, rfl, fun r dr nr ndr nre => ⟨r, dr, l0, os, rfl, upd_same, .inl (.inl ?_), fun H1 lo x1 nlo rd1 => ⟨rfl, ?_⟩⟩⟩
    · rw [upd_ne (ne_of_none h0 nr), upd_ne (ne_of_none h0 ndr)]
      exact h0
    have s1 : Same H H1 := mk_same nr ndr x1
    have nl0 : l0 ≠ r := ne_of_none h0 nr
    refine ⟨kf, rfl, ⟨_, hf _⟩, for_it (walk_tup (xs := [77, 83].map V.int)) (fun i σ H2 => ∃ y2, σ = [some (.ref l0), some (.ref r), y2, none, none, none, none, none, none, none, none] ∧ Ex H1 H2 r ∧ RdAt CO H2 r lo os i) ?_ ?_ ?_ ?_⟩
    · exact ⟨none, rfl, fun _ _ e _ => e, rd1⟩
    · intro i σ H2 hi _
      exact hf _
    · rintro i x σ H2 H' hi ⟨y2, rfl, x2, rd2⟩ ⟨rfl, hx⟩
      rw [List.length_map] at hi
      rw [List.getElem?_map, List.getElem?_eq_getElem hi] at hx
      obtain rfl := Option.some.inj hx
      obtain ⟨dr2, er2⟩ := rd2.i
      refine ⟨_, rfl, r, dr2, _, rfl, er2, rfl, _, rfl, (by show 1 ≤ sizeLine; decide), fun t nt => ?_⟩
      have st := same_new (o := .tup [V.int ([77, 83] : List Int)[i]]) nt
      have ho : os.drop i = ([77, 83] : List Int)[i] :: os.drop (i + 1) := by
        have e0 : os = [77, 83] ++ (w4 up ++ (w4 da ++ (w4 (rs.length : Int) ++ (rs.flatMap eVe ++ w4 (sumO (eRt up da rs)))))) := hd0
        have hi3 : i < os.length := by
          rw [e0, List.length_append]
          omega
        rw [List.drop_eq_getElem_cons hi3]
        congr 1
        simp only [e0]
        exact List.getElem_append_left hi
      refine ⟨r, lo, t, os, os.drop (i + 1), [([77, 83] : List Int)[i]], ([77, 83] : List Int)[i], i, rfl, rd2.same st, ho, fun H3 x3 => SqT.of ?_, List.mem_singleton.mpr rfl, fun H3 x3 rd3 => ⟨_, rfl, fun a o e n => x3 _ _ (st _ _ (x2 _ _ e n)) n, rd3⟩⟩
      exact x3 _ _ upd_same (fun z => by rw [z, er2] at nt; cases nt)
    · rintro σ H2 ⟨y2, rfl, x2, rd2⟩
      obtain ⟨dr2, er2⟩ := rd2.i
      have rd2' : RdAt CO H2 r lo os 2 := rd2
      refine ⟨_, rfl, r, dr2, _, rfl, er2, rfl, r, lo, os, _, up, 1, 4294967295, 2, rfl, rd2', hd2, by omega, by omega, by omega, by omega, fun H3 x3 rd3 => ?_⟩
      obtain ⟨dr3, er3⟩ := rd3.i
      refine ⟨_, rfl, r, dr3, _, rfl, er3, rfl, r, lo, os, _, da, 2 + 4, rfl, rd3, hd6, gd.1, gd.2, fun H4 x4 rd4 => ?_⟩
      refine ⟨Nat.zero_le _, fun pc npc => ?_⟩
      have x14 : Ex H1 H4 r := x2.trans (x3.trans x4)
      have s5 := same_new (o := .lst []) npc
      have rd5 := rd4.same s5
      obtain ⟨dr5, er5⟩ := rd5.i
      have npcr : pc ≠ r := fun z => by
        obtain ⟨dr4, er4⟩ := rd4.i
        rw [z, er4] at npc
        cases npc
      have npcH1 : H1 pc = none := x14.free rd4 npc
      refine ⟨_, rfl, r, dr5, _, rfl, er5, rfl, r, lo, os, _, (rs.length : Int), 2 + 4 + 4, rfl, rd5, hdA, by omega, by omega, fun H6 x6 rd6 => ?_⟩
      refine ⟨(rs.length : Int), rfl, by omega, by omega, for_range (lo := 0) (n := (rs.length : Int).toNat) (fun i σ H7 => ∃ y6 y7 y8 ws, σ = [some (.ref l0), some (.ref r), y2, some (.int up), some (.int da), some (.ref pc), y6, y7, y8, none, none] ∧ Ex H1 H7 r ∧ RdAt CO H7 r lo os (2 + 4 + 4 + 4 + ((rs.take i).flatMap eVe).length) ∧ H7 pc = some (.lst ws) ∧ All (VeAt H7 C) ws (rs.take i)) ?_ ?_ ?_⟩
      · exact ⟨_, _, _, [], rfl, (x14.same s5).trans x6, rd6, x6 _ _ upd_same npcr, All.nil⟩
      · rintro i σ H7 hi ⟨y6, y7, y8, ws, rfl, x7, rd7, epc7, al⟩
        have hi2 : i < rs.length := by omega
        have hdv := at_i hdE hi2
        have gv := g.ve _ (List.getElem_mem hi2)
        have hup : 0 < i → ∃ c', c' ∈ rs ∧ (rs.take i)[i - 1]? = some c' ∧ c'.no < rs[i].no := fun h => by
          refine ⟨rs[i - 1], List.getElem_mem _, ?_, ?_⟩
          · rw [List.getElem?_take_of_lt (by omega), List.getElem?_eq_getElem (by omega)]
          · have := g.asc (i - 1) (by omega)
            have e : i - 1 + 1 = i := by omega
            simp only [e] at this
            exact this
        have xl := al.1
        rw [List.length_take] at xl
        have ew : ws.length - 1 = i - 1 := by omega
        have en := len_i eVe (n := 2 + 4 + 4 + 4) hi2
        rw [List.take_add_one, List.getElem?_eq_getElem hi2] at en ⊢
        generalize rs[i] = c at hdv gv hup en ⊢
        rw [show (some c : Option Ve).toList = [c] from rfl] at en ⊢
        rw [← en]
        generalize 2 + 4 + 4 + 4 + ((rs.take i).flatMap eVe).length = m at rd7 hdv ⊢
        rw [eVe_eq, List.append_assoc] at hdv
        have hdv2 := drop_add' hdv
        refine ⟨fun σ H8 => ∃ e : Int, 0 ≤ e ∧ e + 1 ≤ c.no ∧ σ = [some (.ref l0), some (.ref r), y2, some (.int up), some (.int da), some (.ref pc), some (.int (0 + (i : Int))), some (.int e), y8, none, none] ∧ H8 = H7, ?_, ?_⟩
        · refine ⟨_, rfl, !ws.isEmpty, .inl ⟨ws, .inl (.inl epc7), rfl⟩, ?_⟩
          rcases Nat.eq_zero_or_pos i with z | hp
          · have : ws = [] := List.eq_nil_of_length_eq_zero (by omega)
            subst this
            exact iteBF rfl ⟨0, by decide, gv.lo, rfl, rfl⟩
          · obtain ⟨c', hm', hc', hlt⟩ := hup hp
            obtain ⟨y, hy, cy⟩ := al.2 _ _ hc'
            obtain ⟨b', u', rfl, f1, _⟩ := cy
            have hb : (!ws.isEmpty) = true := by
              cases ws with
              | nil => simp at hy
              | cons a l => rfl
            exact iteB hb ⟨_, rfl, 1, rfl, pc, ws, -1, .ref b', rfl, rfl, .inl (.inl epc7), atI_neg1 (by rw [ew]; exact hy), b', _, 0, .int c'.no, rfl, rfl, SqT.of f1, rfl, c'.no, by have := (g.ve _ hm').lo; omega, by omega, rfl, rfl⟩
        rintro σ H8 ⟨e, e0, e1, rfl, rfl⟩
        obtain ⟨dr7, er7⟩ := rd7.i
        have ghi := gv.hi
        refine ⟨_, rfl, r, dr7, _, rfl, er7, rfl, _, rfl, _, _, rfl, rfl, _, rfl, _, _, rfl, rfl, r, lo, os, _, c.no, e + 1, up - 1, m, rfl, rd7, hdv, by omega, by omega, e1, ghi, fun H9 x9 rd9 => ?_⟩
        have epc9 := x9 _ _ epc7 npcr
        refine ⟨_, rfl, .inl ⟨rfl, _, .inl (.inl epc9)⟩, _, rfl, _, rfl, r, lo, os, _, _, c.as, rfl, rd9, hdv2, gv.as, fun H10 t x10 rd10 ta => ⟨(by show 2 ≤ sizeLine; decide), fun t2 nt2 => ?_⟩⟩
        have x710 := x9.trans x10
        have s11 := same_new (o := .tup [.int c.no, t]) nt2
        have epc11 := s11 _ _ (x10 _ _ epc9 npcr)
        refine ⟨pc, ws, .ref t2, rfl, rfl, epc11, big (by omega), _, _, _, ws ++ [.ref t2], rfl, fun z o e nz => ?_, ?_, upd_same, ?_⟩
        · rw [upd_ne (fun y => by rw [y, npcH1] at e; cases e)]
          exact s11 _ _ (x710 _ _ (x7 _ _ e nz) nz)
        · have em : m + 4 + (eAs c.as).length = m + (eVe c).length := by
            rw [eVe_eq, List.length_append]
            show _ = m + (4 + _)
            omega
          have rd11 := rd10.same s11
          have rd11 : RdAt CO _ r lo os (m + 4 + (eAs c.as).length) := rd11
          rw [em] at rd11
          obtain ⟨dr11, er11⟩ := rd11.i
          exact ⟨⟨dr11, by rw [upd_ne npcr.symm]; exact er11⟩, by rw [upd_ne (ne_of_none rd1.o npcH1)]; exact rd11.o, rd11.le⟩
        · have kt := kt_upd (ys := ws ++ [.ref t2]) epc11
          exact All.push (al.imp fun y c h => ((h.ex x710 rd7).same s11).kt kt) ⟨t2, t, rfl, kt _ _ upd_same (fun _ z => nomatch z), ((ta.same s11 fun _ _ z => z.same s11).kt kt fun _ _ z => z.kt kt)⟩
      · rintro σ H7 ⟨y6, y7, y8, ws, rfl, x7, rd7, epc7, al⟩
        rw [show (rs.length : Int).toNat = rs.length from by omega, List.take_length] at rd7 al
        have el : 2 + 4 + 4 + 4 + (rs.flatMap eVe).length = (eRt up da rs).length := by
          unfold eRt
          simp only [List.length_append]
          rfl
        rw [el] at rd7
        obtain ⟨dr7, er7⟩ := rd7.i
        have h07 := x7 _ _ (s1 _ _ h0) nl0
        have ht : os.take (eRt up da rs).length = eRt up da rs := by rw [hos, List.take_left]
        have hdl : os.drop (eRt up da rs).length = w4 (sumO (eRt up da rs)) ++ [] := by rw [hos, List.drop_left, List.append_nil]
        have hll : os.length = (eRt up da rs).length + 4 := by rw [hos, List.length_append]; rfl
        refine ⟨_, rfl, r, CO, dr7, _, .int ((eRt up da rs).length : Int), rfl, er7, T.cl, T.na _ (by decide +kernel), rfl, ?_⟩
        refine ⟨_, rfl, _, rfl, _, rfl, l0, _, rfl, .inl (.inl h07), fun p np => ?_⟩
        have s8 := same_new (o := .lst ((eRt up da rs).map V.int)) np
        have ecut : cutV (os.map V.int) none (some ((eRt up da rs).length : Int)) = (eRt up da rs).map V.int := by
          unfold cutV
          rw [show HT.sIx (os.map V.int).length (os.map V.int).length (some ((eRt up da rs).length : Int)) = min (eRt up da rs).length (os.map V.int).length from HT.sIx_nat _ _ _, List.length_map, Nat.min_eq_left (by omega)]
          show ((os.map V.int).drop 0).take ((eRt up da rs).length - 0) = _
          rw [List.drop_zero, Nat.sub_zero, ← List.map_take, ht]
        rw [ecut]
        refine ⟨p, eRt up da rs, rfl, .inl (.inl upd_same), ?_⟩
        have rd8 := rd7.same s8
        obtain ⟨dr8, er8⟩ := rd8.i
        refine ⟨_, rfl, r, dr8, _, rfl, er8, rfl, _, rfl, _, rfl, r, lo, os, [], sumO (eRt up da rs), _, _, _, rfl, rd8, hdl, hsum.1, hsum.2, Int.le_refl _, Int.le_refl _, fun H9 x9 rd9 => ?_⟩
        rw [← hll] at rd9
        obtain ⟨dr9, er9⟩ := rd9.i
        refine ⟨_, rfl, r, dr9, _, rfl, er9, rfl, r, lo, os, rfl, rd9, true, rfl, iteF ?_⟩
        have x19 : Ex H1 H9 r := (x7.same s8).trans x9
        have epc9 := x9 _ _ (s8 _ _ epc7) npcr
        refine ⟨_, rfl, _, rfl, _, rfl, pc, ws, rfl, .inl ⟨.inl (.inl epc9), fun t nt => ?_⟩⟩
        intro a dxa na ndxa nae
        refine ⟨a, dxa, .int up, .int da, .ref t, rfl, upd_same, fun H11 x11 e11 => ⟨rfl, ?_⟩⟩
        have s911 : Same H9 H11 := (same_new nt).trans (mk_same na ndxa x11)
        have al9 : All (VeAt H9 C) ws rs := al.imp fun y c h => (h.same s8).ex x9 rd8
        refine q H11 _ (fun c o e => s911 _ _ (x19 _ _ (s1 _ _ e) (ne_of_none e nr))) ⟨a, dxa, .ref t, rfl, e11, t, ws, rfl, ?_, al9.imp fun y c h => h.same s911⟩
        exact mk_same na ndxa x11 _ _ upd_same
end
end K2

/-! ### t != u of tuples that are equal item by item -/
namespace K2
open PySem PySem.SeqAt
open AutoSeq1 (wpAny_loadPart')
open MeetsSeq MeetsSeq2 MeetsSeq3 SeqRoads2
section
variable {prog : Program} {w : World} {A : Around} {R : Result → Shared → Prop}
theorem tup_neG (p q : Addr) (xs ys : Array Value) (n1 n2 : Nat) (d1 d2 : Option Addr) (sl1 sl2 : Array (Option Value)) (hxy : xs.size = ys.size) (J : Nat → Shared → Prop)
    (step : ∀ k (g1 : k < xs.size) (g2 : k < ys.size) s, J k s → wpAny (model prog w) A.in1 (eqBool xs[k] ys[k]) (fun r s' => r = true ∧ J (k + 1) s') (fun e s' => R (.error e) s') s)
    (last : ∀ s, J xs.size s → R (.ok (.ret (.bool false))) s) {s : Shared} (e1 : s.heap.get? p = some { cls := .type "tuple", dict := d1, data := .seq xs n1, slots := sl1 }) (e2 : s.heap.get? q = some { cls := .type "tuple", dict := d2, data := .seq ys n2, slots := sl2 }) (j0 : J 0 s) :
    wpAny (model prog w) A.in1 (Builtin.«tuple.__ne__» ⟨[.ref p, .ref q], []⟩) (GQ.FinOf prog w A R) (fun e s' => R (.error e) s') s := by
  have tt := AutoSeq1.sub_tuple_tuple
  have zl : (xs.toList.zip ys.toList).length = xs.size := by simp [hxy]
  have j1 := j0
  obtain ⟨h0, g0, dr0, tk0, os0⟩ := s
  wp_walk using wpAny_loadPart' e1, wpAny_loadPart' e2, wpAny_forIn_list _ (fun left c s' => c.1 = none ∧ ∃ k, left = (xs.toList.zip ys.toList).drop k ∧ k ≤ xs.size ∧ J k s') _
  case turn =>
    rintro ⟨u, v⟩ left c s' ⟨hc, k, hk, hle, jk⟩
    have kl : k < (xs.toList.zip ys.toList).length := by
      apply Classical.byContradiction
      intro z
      rw [List.drop_of_length_le (by omega)] at hk
      cases hk
    have g1 : k < xs.size := zl ▸ kl
    have g2 : k < ys.size := hxy ▸ g1
    rw [List.drop_eq_getElem_cons kl] at hk
    injection hk with huv hl
    have eu : u = xs[k] := by have := congrArg Prod.fst huv; simpa using this
    have ev : v = ys[k] := by have := congrArg Prod.snd huv; simpa using this
    subst eu ev
    refine wpAny_bind (wpAny_mono (step k g1 g2 s' jk) (fun r s2 z => ?_) fun _ _ x => x)
    obtain ⟨rfl, j2⟩ := z
    wp_walk
    exact ⟨rfl, k + 1, hl, g1, j2⟩
  case fin =>
    rintro ⟨c1, c2⟩ s' ⟨hc, k, hk, hle, jk⟩
    simp only at hc
    subst hc
    have hge : ¬ k < xs.size := fun z => by
      rw [List.drop_eq_getElem_cons (by omega)] at hk
      cases hk
    have ek : k = xs.size := by omega
    have hR := last s' (ek ▸ jk)
    wp_walk
    simpa [Builtin.Tuple.tupleCompareSizes, hxy] using hR
  case h =>
    exact ⟨rfl, 0, rfl, Nat.zero_le _, j1⟩
theorem rn_tupG {E : Value → Shared → Prop} {s : Shared} {p q : Addr} {xs ys : Array Value} {Q : Value → Shared → Prop} (hxy : xs.size = ys.size) (hu : A.units < cLine) (J : Nat → Shared → Prop) (h1 : s.heap.IsTuple p xs) (h2 : s.heap.IsTuple q ys)
    (step : ∀ k (g1 : k < xs.size) (g2 : k < ys.size) s, J k s → wpAny (model prog w) A.in1 (eqBool xs[k] ys[k]) (fun r s' => r = true ∧ J (k + 1) s') E s)
    (last : ∀ s, J xs.size s → Q (.bool false) s) (j0 : J 0 s) : wpAny (model prog w) A (richCompare .NotEq (.ref p) (.ref q)) Q E s := by
  obtain ⟨⟨c1, d1, dt1, sl1⟩, o1, k1, n1, f1⟩ := id h1
  obtain ⟨⟨c2, d2, dt2, sl2⟩, o2, k2, n2, f2⟩ := id h2
  simp only at k1 f1 k2 f2
  subst k1 f1 k2 f2
  refine wpAny_richCompare_same_room (op := .NotEq) ⟨_, o1, rfl⟩ ⟨_, o2, rfl⟩ F.slot_tuple_ne (GQ.call_here F.slot_tuple_ne ⟨_, o1, rfl⟩ F.entry_tuple_ne (F.args_tuple_ne_2 _ _) ?_) hu
  exact tup_neG (R := wants (fun v s' => v ≠ .notImplemented ∧ Q v s') E) p q xs ys n1 n2 d1 d2 sl1 sl2 hxy J step (fun s' z => ⟨(fun x => nomatch x), last s' z⟩) o1 o2 j0
end
open L2 PySem.Spec PyProof.Rows
def rNeG (D : Eqv) : R2 := fun x y H Q => D x y H ∧ ∀ H', Ext H H' → Q (.bl false) H'
theorem op_neTup {X : Cx} {n : Nat} {D : Eqv} (hD : Mon D) (h : EqG X n D) (hr : Room (n + 1) X.A) : OpR X (compareOp .NotEq) (rNeG (DTup X.K D)) := by
  rintro pins s σ H x y u v Q I rx ry ⟨⟨a, b, xs, ys, rfl, rfl, ha, hb, p⟩, q⟩
  cases rx
  cases ry
  obtain ⟨its, r1, t1, _⟩ := I.tuple ha
  obtain ⟨jts, r2, t2, _⟩ := I.tuple hb
  have hxy : its.toArray.size = jts.toArray.size := by rw [List.size_toArray, List.size_toArray, ← r1.length, ← r2.length]; exact p.1
  have sb : Sub X (n + 1) X.A := ⟨hr, rfl⟩
  show wpAny (model X.prog X.w) X.A (richCompare .NotEq (.ref a) (.ref b)) (EP X pins σ Q) X.xe s
  exact rn_tupG hxy hr.units0 (fun _ s' => LoopI X pins σ H s') t1 t2 (fun i g1 g2 s' z => turnG hD h sb p r1 r2 i g1 g2 s' z) (fun s' z => by
    obtain ⟨H', I', e⟩ := z
    exact ⟨.bl false, H', I', rfl, q H' e⟩) ⟨H, I, Ext.rfl'⟩
end K2

namespace K2
open PySem L2
structure IsiC (K : PySem.W.Frag) (C fE : Addr) : Prop where
  eq : PySem.W.findIn K (.ref C) "__eq__" = some (some (.ref fE))
  ef : PySem.W.isFn K (.ref fE) = true
  n1 : PySem.W.notFirst K C (.ref C) = true
  n2 : PySem.W.notFirst K C (.type "tuple") = true
  ha : PySem.W.findIn K (.ref C) "__class__" = some (some (.builtin "object.__class__"))
  hn : PySem.W.specialIn K (.builtin "object.__class__") "__get__" = some (some (.builtin "getset_descriptor.__get__"))
  htk : PySem.W.takesIn K (.builtin "object.__class__") = some true
  hm : PySem.W.mroIn K C (.type "object") = some true
  k1 : PySem.W.kitOne K (.ref C) (.ref C) = some true
  k2 : PySem.W.kitOne K (.type "tuple") (.ref C) = some false
/-! ### equal item by item -/
theorem eqV_refl {x : V} (h : flatV x = true) : eqV x x = true := by
  cases x <;> first | rfl | cases h | skip
  all_goals first | exact beq_self_eq_true _ | exact decide_eq_true rfl
theorem dflat {x : V} {H : Hp} (h : flatV x = true) : DFlat x x H := ⟨h, h, eqV_refl h⟩
theorem prs_self {D : Eqv} {H : Hp} : ∀ {xs : List V}, (∀ x ∈ xs, D x x H) → Prs D xs xs H := fun {xs} h => ⟨rfl, fun i x y e1 e2 => by
  rw [e1] at e2
  obtain rfl := Option.some.inj e2
  exact h _ (List.mem_of_getElem? e1)⟩
theorem prs_all {α : Type} {R S : V → α → Prop} {D : Eqv} {H : Hp} {xs ys : List V} {l : List α} (a : All R xs l) (b : All S ys l) (h : ∀ x y c, R x c → S y c → D x y H) : Prs D xs ys H :=
  ⟨a.1.trans b.1.symm, fun i x y e1 e2 => by
    have hi : i < l.length := by
      rw [← a.1]
      exact (List.getElem?_eq_some_iff.mp e1).1
    exact h _ _ _ (a.at hi e1) (b.at hi e2)⟩
theorem dtup_all {α : Type} {K : PySem.W.Frag} {R S : V → α → Prop} {D : Eqv} {H : Hp} {x y : V} {l : List α} (a : TupAt H R x l) (b : TupAt H S y l) (h : ∀ x y c, R x c → S y c → D x y H) : DTup K D x y H := by
  obtain ⟨p, xs, rfl, h1, h2⟩ := a
  obtain ⟨q, ys, rfl, h3, h4⟩ := b
  exact ⟨p, q, xs, ys, rfl, rfl, SqT.of h1, SqT.of h3, prs_all h2 h4 h⟩
theorem dtup_row {K : PySem.W.Frag} {H : Hp} {x y : V} {r : List V} (a : RowAt H r x) (b : RowAt H r y) (h : ∀ z ∈ r, flatV z = true) : DTup K DFlat x y H := by
  obtain ⟨p, rfl, h1⟩ := a
  obtain ⟨q, rfl, h2⟩ := b
  exact ⟨p, q, r, r, rfl, rfl, SqT.of h1, SqT.of h2, prs_self fun z hz => dflat (h z hz)⟩
theorem flatD (d : D) : ∀ z ∈ d.v, flatV z = true := fun z hz => by
  unfold D.v at hz
  simp only [List.mem_cons, List.not_mem_nil, or_false] at hz
  rcases hz with rfl | rfl | rfl | rfl <;> rfl
theorem flatT (d : T) : ∀ z ∈ d.v, flatV z = true := fun z hz => by
  unfold T.v at hz
  simp only [List.mem_cons, List.not_mem_nil, or_false] at hz
  rcases hz with rfl | rfl <;> rfl
def RSh (C : Addr) (a b : Addr) (H : Hp) : Prop := ∃ ds ts, ShAt H C (.ref a) ds ts ∧ ShAt H C (.ref b) ds ts
theorem mon_RSh {C : Addr} : ∀ a b H H', Ext H H' → RSh C a b H → RSh C a b H' := fun _ _ _ _ e ⟨ds, ts, h1, h2⟩ => ⟨ds, ts, h1.same e, h2.same e⟩
/-! ### the levels of a root -/
abbrev L1 (K : PySem.W.Frag) : Eqv := fun x y H => DFlat x y H ∨ DTup K DFlat x y H
abbrev L2' (K : PySem.W.Frag) : Eqv := DTup K (L1 K)
abbrev L3 (K : PySem.W.Frag) : Eqv := DTup K (L2' K)
abbrev L4 (K : PySem.W.Frag) (C : Addr) : Eqv := fun x y H => DFlat x y H ∨ (L3 K x y H ∨ DIns C (RSh C) x y H)
abbrev L5 (K : PySem.W.Frag) (C : Addr) : Eqv := DTup K (L4 K C)
abbrev L6 (K : PySem.W.Frag) (C : Addr) : Eqv := fun x y H => DFlat x y H ∨ DTup K (L5 K C) x y H
abbrev L7 (K : PySem.W.Frag) (C : Addr) : Eqv := DTup K (L6 K C)
theorem m1 {K : PySem.W.Frag} : Mon (L1 K) := mon_flat.or (mon_tup mon_flat)
theorem m2 {K : PySem.W.Frag} : Mon (L2' K) := mon_tup m1
theorem m4 {K : PySem.W.Frag} {C : Addr} : Mon (L4 K C) := mon_flat.or ((mon_tup m2).or (mon_ins mon_RSh))
theorem m6 {K : PySem.W.Frag} {C : Addr} : Mon (L6 K C) := mon_flat.or (mon_tup (mon_tup m4))
theorem m7 {K : PySem.W.Frag} {C : Addr} : Mon (L7 K C) := mon_tup m6
theorem eqL7 {X : Cx} {C : Addr} (h : EqG X 3 (DIns C (RSh C))) : EqG X 6 (L7 X.K C) := by
  have e1 : EqG X 1 (L1 X.K) := (eqG_flat.mono (by decide)).or (eqG_tup mon_flat eqG_flat)
  have e3 : EqG X 3 (L3 X.K) := eqG_tup m2 (eqG_tup m1 e1)
  have e4 : EqG X 3 (L4 X.K C) := (eqG_flat.mono (by decide)).or (e3.or h)
  have e6 : EqG X 5 (L6 X.K C) := (eqG_flat.mono (by decide)).or (eqG_tup (mon_tup m4) (eqG_tup m4 e4))
  exact eqG_tup m6 e6
theorem ck_eq {K : PySem.W.Frag} {H : Hp} {x y : V} {c : Ck} (a : CkAt H x c) (b : CkAt H y c) : L2' K x y H := by
  obtain ⟨p, u, rfl, h1, h2⟩ := a
  obtain ⟨q, v, rfl, h3, h4⟩ := b
  refine ⟨p, q, _, _, rfl, rfl, SqT.of h1, SqT.of h3, Prs.cons (.inr ?_) (Prs.cons (.inl (dflat rfl)) (Prs.cons (.inl (dflat rfl)) Prs.nil))⟩
  exact dtup_row ⟨u, rfl, h2⟩ ⟨v, rfl, h4⟩ fun z hz => by
    obtain ⟨i, _, rfl⟩ := List.mem_map.mp hz
    rfl
theorem sh_eq {C : Addr} {H : Hp} {x y : V} {ds : List D} {ts : List T} (a : ShAt H C x ds ts) (b : ShAt H C y ds ts) : DIns C (RSh C) x y H := by
  have a0 := a
  have b0 := b
  obtain ⟨p, dp, _, _, rfl, h1, _⟩ := a
  obtain ⟨q, dq, _, _, rfl, h2, _⟩ := b
  exact ⟨p, q, dp, dq, _, _, rfl, rfl, h1, h2, ds, ts, a0, b0⟩
theorem ar_eq {K : PySem.W.Frag} {C : Addr} {H : Hp} {x y : V} {c : Ar} (a : ArAt H C x c) (b : ArAt H C y c) : L5 K C x y H := by
  obtain ⟨p, u, v, rfl, h1, h2, h3⟩ := a
  obtain ⟨q, u', v', rfl, h4, h5, h6⟩ := b
  exact ⟨p, q, _, _, rfl, rfl, SqT.of h1, SqT.of h4, Prs.cons (.inl (dflat rfl)) (Prs.cons (.inr (.inr (sh_eq h2 h5))) (Prs.cons (.inr (.inl (dtup_all h3 h6 fun _ _ _ => ck_eq))) Prs.nil))⟩
theorem ve_eq {K : PySem.W.Frag} {C : Addr} {H : Hp} {x y : V} {c : Ve} (a : VeAt H C x c) (b : VeAt H C y c) : L7 K C x y H := by
  obtain ⟨p, u, rfl, h1, h2⟩ := a
  obtain ⟨q, v, rfl, h3, h4⟩ := b
  exact ⟨p, q, _, _, rfl, rfl, SqT.of h1, SqT.of h3, Prs.cons (.inl (dflat rfl)) (Prs.cons (.inr (dtup_all h2 h4 fun _ _ _ => ar_eq)) Prs.nil)⟩
section
variable {P : Program} {w : World} {K : PySem.W.Frag} {mg : Str → Option Value} {base : Heap}
theorem scShEq : FnScope ["self", "other"] ["self", "other"] (defScope sShEq) := ⟨rfl, rfl, rfl, by decide +kernel, rfl, by decide +kernel, by decide +kernel⟩
theorem ok_shEq {f fI C : Addr} {fd : FuncData} (F : Fun K "__eq__" "Shape.__eq__" sShEq f fd) (M : Nm mg) (S : KC K C fI SHf) (I : IsiC K C f) (gC : mg "Shape" = some (.ref C)) : FnOk P w K mg base CX0 3 f fd ["self", "other"] (spEq (RSh C)) := by
  refine F.ok scShEq (fun vs H Q E h => ?_) (fun cdv A outer s H vs Q E hr h => ?_)
  · obtain ⟨a, b, rfl, _⟩ := h
    rfl
  · obtain ⟨a, b, rfl, ⟨ds, ts, ⟨a0, dx, u, v, ea, ha, h1, h2⟩, ⟨b0, dy, u', v', eb, hb, h3, h4⟩⟩, q⟩ := h
    obtain rfl := V.ref.inj ea
    obtain rfl := V.ref.inj eb
    refine ⟨_, pss_one (ps_ret (pe_and (pe_callB call_isi (by rfl) M.isinstance (by decide +kernel) (pa_cons (pv 1) (pa_cons (pe_glob (v := .ref C) (by rfl) gC rfl) pa_nil)))
      (pe_and (pe_cmpR (op_eqG (rcG_tup (mon_tup mon_flat) (eqG_tup mon_flat eqG_flat)) hr) (pe_fld (pv 0) rfl) (pe_fld (pv 1) rfl) (nomark _)) (pe_one (pe_cmpR (op_eqG (rcG_tup (mon_tup mon_flat) (eqG_tup mon_flat eqG_flat)) hr) (pe_fld (pv 0) rfl) (pe_fld (pv 1) rfl) (nomark _)))))), ?_⟩
    have nD : NoAttr K C "dims" := S.na _ (by decide +kernel)
    have nA : NoAttr K C "attrs" := S.na _ (by decide +kernel)
    refine ⟨_, rfl, _, .ref C, .ref C, .ref C, true, rfl, .own C, .base (.ins hb S.cl I.ha I.hn I.htk I.hm), I.k1, true, rfl, iteT ?_⟩
    refine ⟨_, rfl, a, C, dx, _, u, rfl, ha, S.cl, nD, rfl, _, rfl, b, C, dy, _, u', rfl, hb, S.cl, nD, rfl, dtup_all h1 h3 fun _ _ d z1 z2 => dtup_row z1 z2 (flatD d), fun H1 e1 => ⟨true, rfl, iteT ?_⟩⟩
    refine ⟨_, rfl, a, C, dx, _, v, rfl, e1 _ _ ha, S.cl, nA, rfl, _, rfl, b, C, dy, _, v', rfl, e1 _ _ hb, S.cl, nA, rfl, mon_tup (mon_tup mon_flat) _ _ _ _ e1 (dtup_all h2 h4 fun _ _ d z1 z2 => dtup_row z1 z2 (flatT d)), fun H2 e2 => q H2 (e1.trans e2)⟩
def spREq (K : PySem.W.Frag) (CR C : Addr) : Sp := fun vs H Q _ => ∃ (a b dx : Addr) (up da : Int) (u : V) (rs : List Ve), vs = [.ref a, .ref b] ∧ H a = some (.ins CR dx [("upcoming", .int up), ("data", .int da), ("versions", u)]) ∧ TupAt H (VeAt H C) u rs ∧
  ((∃ dy da' u', H b = some (.ins CR dy [("upcoming", .int up), ("data", .int da'), ("versions", u')]) ∧ TupAt H (VeAt H C) u' rs ∧ (da ≠ da' → Q (.bl false) H) ∧ (da = da' → ∀ H', Ext H H' → Q (.bl true) H')) ∨ ∃ xs, H b = some (.tup xs) ∧ Q (.bl false) H)
theorem scREq : FnScope ["self", "other"] ["self", "other"] (defScope sRootEq) := ⟨rfl, rfl, rfl, by decide +kernel, rfl, by decide +kernel, by decide +kernel⟩
theorem ok_req {f fI fS CR C : Addr} {fd fdS : FuncData} (F : Fun K "__eq__" "Root.__eq__" sRootEq f fd) (M : Nm mg) (R : KC K CR fI RHf) (I : IsiC K CR f) (gR : mg "Root" = some (.ref CR)) (J : IsiC K C fS)
    (GS : FnOk P w K mg base CX0 3 fS fdS ["self", "other"] (spEq (RSh C))) (bS : Binds K fdS ["self", "other"] []) : FnOk P w K mg base CX0 8 f fd ["self", "other"] (spREq K CR C) := by
  refine F.ok scREq (fun vs H Q E h => ?_) (fun cdv A outer s H vs Q E hr h => ?_)
  · obtain ⟨a, b, dx, up, da, u, rs, rfl, _⟩ := h
    rfl
  · obtain ⟨a, b, dx, up, da, u, rs, rfl, ha, hu, q⟩ := h
    refine ⟨_, pss_one (ps_ret (pe_and (pe_callB call_isi (by rfl) M.isinstance (by decide +kernel) (pa_cons (pv 1) (pa_cons (pe_glob (v := .ref CR) (by rfl) gR rfl) pa_nil)))
      (pe_and (pe_cmpR op_eq (pe_fld (pv 0) rfl) (pe_fld (pv 1) rfl) (nomark _)) (pe_and (pe_cmpR op_eq (pe_fld (pv 0) rfl) (pe_fld (pv 1) rfl) (nomark _)) (pe_one (pe_cmpR (op_eqG (rcG_tup m7 (eqL7 (eqG_ins GS J.eq J.ef bS pass0))) hr) (pe_fld (pv 0) rfl) (pe_fld (pv 1) rfl) (nomark _))))))), ?_⟩
    have n1 : NoAttr K CR "upcoming" := R.na _ (by decide +kernel)
    have n2 : NoAttr K CR "data" := R.na _ (by decide +kernel)
    have n3 : NoAttr K CR "versions" := R.na _ (by decide +kernel)
    rcases q with ⟨dy, da', u', hb, hu', q1, q2⟩ | ⟨xs, hb, q⟩
    · refine ⟨_, rfl, _, .ref CR, .ref CR, .ref CR, true, rfl, .own CR, .base (.ins hb R.cl I.ha I.hn I.htk I.hm), I.k1, true, rfl, iteT ?_⟩
      refine ⟨_, rfl, a, CR, dx, _, _, rfl, ha, R.cl, n1, rfl, _, rfl, b, CR, dy, _, _, rfl, hb, R.cl, n1, rfl, rfl, _, rfl, ?_⟩
      refine iteB (decide_eq_true rfl) ⟨_, rfl, a, CR, dx, _, _, rfl, ha, R.cl, n2, rfl, _, rfl, b, CR, dy, _, _, rfl, hb, R.cl, n2, rfl, rfl, _, rfl, ?_⟩
      by_cases e : da = da'
      · subst e
        exact iteB (decide_eq_true rfl) ⟨_, rfl, a, CR, dx, _, u, rfl, ha, R.cl, n3, rfl, _, rfl, b, CR, dy, _, u', rfl, hb, R.cl, n3, rfl, dtup_all hu hu' fun _ _ _ => ve_eq, q2 rfl⟩
      · have z : decide (V.int da = V.int da') = false := decide_eq_false fun z => e (V.int.inj z)
        rw [z]
        exact iteF (q1 e)
    · exact ⟨_, rfl, _, .ref CR, .type "tuple", .ref CR, false, rfl, .own CR, .base (.tup hb), I.k2, false, rfl, iteF q⟩
end
end K2

namespace K2
open PySem L2
/-! ### what is drawn is a good root -/
theorem nms_nodup : ((["x", "y"] : List Str) ++ (["v", "w"] : List Str)).Nodup := by decide +kernel
theorem drSh {ds : List D} {ts : List T} (h : DrSh ds ts) : GSh ds ts := by
  obtain ⟨i, i1, i2, hi⟩ := h.i
  obtain ⟨j, j1, j2, hj⟩ := h.j
  have l1 : ds.length = i := by
    have := congrArg List.length hi
    rw [List.length_map, List.length_take] at this
    have e : (["x", "y"] : List Str).length = 2 := rfl
    omega
  have l2 : ts.length = j := by
    have := congrArg List.length hj
    rw [List.length_map, List.length_take] at this
    have e : (["v", "w"] : List Str).length = 2 := rfl
    omega
  refine ⟨by omega, by omega, fun d hd => ?_, fun t ht => ?_, ?_⟩
  · have hm : d.n ∈ (["x", "y"] : List Str) := List.mem_of_mem_take (hi ▸ List.mem_map.mpr ⟨d, hd, rfl⟩)
    have g := h.d d hd
    unfold DrD at g
    refine ⟨?_, by omega, by omega, by omega, by omega, by omega⟩
    simp only [List.mem_cons, List.not_mem_nil, or_false] at hm
    rcases hm with e | e <;> (rw [e]; decide +kernel)
  · have hm : t.n ∈ (["v", "w"] : List Str) := List.mem_of_mem_take (hj ▸ List.mem_map.mpr ⟨t, ht, rfl⟩)
    refine ⟨?_, h.t t ht⟩
    simp only [List.mem_cons, List.not_mem_nil, or_false] at hm
    rcases hm with e | e <;> (rw [e]; decide +kernel)
  · rw [hi, hj]
    exact nms_nodup.sublist ((List.take_sublist _ _).append (List.take_sublist _ _))
theorem drSh_len {ds : List D} {ts : List T} (h : DrSh ds ts) : ds.length ≤ 2 ∧ ts.length ≤ 2 := by
  obtain ⟨i, i1, i2, hi⟩ := h.i
  obtain ⟨j, j1, j2, hj⟩ := h.j
  have e1 := congrArg List.length hi
  have e2 := congrArg List.length hj
  rw [List.length_map, List.length_take] at e1 e2
  omega
theorem nms_len : ∀ n ∈ NMS, n.length ≤ 2 := by decide +kernel
/-- the rows of chunks ascend -/
theorem lexLt_same : ∀ (r : List Int) (a b : List Int), HT.lexLt (r ++ a) (r ++ b) = HT.lexLt a b
  | [], _, _ => rfl
  | x :: r, a, b => by
    show (if x = x then HT.lexLt (r ++ a) (r ++ b) else _) = _
    rw [if_pos rfl, lexLt_same r a b]
theorem lexLt_app : ∀ (r s : List Int) (a b : List Int), r.length = s.length → HT.lexLt r s = true → HT.lexLt (r ++ a) (s ++ b) = true
  | [], [], _, _, _, h => by cases h
  | [], _ :: _, _, _, h, _ => by cases h
  | _ :: _, [], _, _, h, _ => by cases h
  | x :: r, y :: s, a, b, hl, h => by
    have h : (if x = y then HT.lexLt r s else decide (x < y)) = true := h
    show (if x = y then HT.lexLt (r ++ a) (s ++ b) else decide (x < y)) = true
    by_cases e : x = y
    · rw [if_pos e] at h ⊢
      exact lexLt_app r s a b (Nat.succ.inj hl) h
    · rw [if_neg e] at h ⊢
      exact h
def Asc (rs : List (List Int)) : Prop := rs.Pairwise fun a b => HT.lexLt a b = true
theorem rowS_mem {rs : List (List Int)} {d : D} {q : List Int} (h : q ∈ rowS rs d) : ∃ r ∈ rs, ∃ i : Nat, i < cntD d ∧ q = r ++ [(i : Int)] := by
  unfold rowS at h
  obtain ⟨r, hr, h⟩ := List.mem_flatMap.mp h
  obtain ⟨i, hi, rfl⟩ := List.mem_map.mp h
  exact ⟨r, hr, i, List.mem_range.mp hi, rfl⟩
theorem rowS_asc {rs : List (List Int)} {d : D} {n : Nat} (hl : ∀ r ∈ rs, r.length = n) (h : Asc rs) : Asc (rowS rs d) := by
  induction rs with
  | nil => exact List.Pairwise.nil
  | cons r t ih =>
    have hp := List.pairwise_cons.mp h
    unfold rowS
    rw [List.flatMap_cons]
    refine List.pairwise_append.mpr ⟨?_, ih (fun r hr => hl r (List.mem_cons_of_mem _ hr)) hp.2, fun a ha b hb => ?_⟩
    · rw [List.pairwise_map]
      refine List.pairwise_lt_range.imp fun {a b} hab => ?_
      rw [lexLt_same]
      show (if (a : Int) = (b : Int) then _ else decide ((a : Int) < (b : Int))) = true
      rw [if_neg (by omega), decide_eq_true (by omega)]
    · obtain ⟨i, _, rfl⟩ := List.mem_map.mp ha
      obtain ⟨s, hs, j, _, rfl⟩ := rowS_mem (d := d) hb
      exact lexLt_app _ _ _ _ ((hl r List.mem_cons_self).trans (hl s (List.mem_cons_of_mem _ hs)).symm) (hp.1 s hs)
theorem rowsF_ok (ds : List D) : ∀ i, i ≤ ds.length → Asc (rowsF (ds.take i)) ∧ ∀ r ∈ rowsF (ds.take i), r.length = i ∧ ∀ (j : Nat) (h : j < r.length) (h2 : j < ds.length), ∃ k : Nat, k < cntD ds[j] ∧ r[j] = (k : Int)
  | 0, _ => by
    refine ⟨?_, fun r hr => ?_⟩
    · rw [List.take_zero]
      exact List.pairwise_singleton _ _
    · rw [List.take_zero] at hr
      rw [List.mem_singleton.mp hr]
      exact ⟨rfl, fun j h => absurd h (Nat.not_lt_zero _)⟩
  | i + 1, hi => by
    obtain ⟨h1, h2⟩ := rowsF_ok ds i (Nat.le_of_succ_le hi)
    rw [rowsF_succ (Nat.lt_of_succ_le hi)]
    refine ⟨rowS_asc (fun r hr => (h2 r hr).1) h1, fun r hr => ?_⟩
    obtain ⟨q, hq, k, hk, rfl⟩ := rowS_mem hr
    obtain ⟨ql, qi⟩ := h2 q hq
    refine ⟨by rw [List.length_append, ql]; rfl, fun j hj hj2 => ?_⟩
    by_cases e : j < q.length
    · rw [List.getElem_append_left e]
      exact qi j e hj2
    · rw [List.length_append] at hj
      have e1 : [(k : Int)].length = 1 := rfl
      have ej : j = i := by omega
      subst ej
      refine ⟨k, hk, ?_⟩
      rw [List.getElem_append_right (by omega)]
      simp [ql]
structure DrAr (r : Ar) : Prop where
  sh : DrSh r.ds r.ts
  cs : (r.cs.map (·.c)).Sublist (rowsF r.ds)
  ck : ∀ c ∈ r.cs, (0 ≤ c.o ∧ c.o < 4294967296) ∧ 0 ≤ c.l ∧ c.l < 4294967296
structure DrAs (as : List Ar) : Prop where
  n : ∃ k, k ≤ 2 ∧ as.map (·.n) = (["a", "b2"] : List Str).take k
  ar : ∀ r ∈ as, DrAr r
structure DrRt (up da : Int) (rs : List Ve) : Prop where
  len : rs.length ≤ 3
  as : ∀ r ∈ rs, DrAs r.as ∧ 1 ≤ r.no ∧ r.no < up
  u : 1 ≤ up ∧ up < 4294967296
  d : 0 ≤ da ∧ da < 4294967296
  asc : ∀ (i : Nat) (h : i + 1 < rs.length), rs[i].no < rs[i + 1].no
theorem drCs {r : Ar} (h : DrAr r) : GCs r.ds r.cs ∧ r.cs.length ≤ 81 ∧ ∀ c ∈ r.cs, c.c.length ≤ 2 := by
  have g := drSh h.sh
  have l2 := (drSh_len h.sh).1
  obtain ⟨asc, row⟩ := rowsF_ok r.ds r.ds.length (Nat.le_refl _)
  rw [List.take_length] at asc row
  have hs := h.cs
  have len := hs.length_le
  have l81 := rowsF_len h.sh.d l2 r.ds.length
  rw [List.take_length] at l81
  rw [List.length_map] at len
  have mem : ∀ c ∈ r.cs, c.c ∈ rowsF r.ds := fun c hc => hs.subset (List.mem_map.mpr ⟨c, hc, rfl⟩)
  refine ⟨⟨by omega, fun c hc => ?_, fun i hi => ?_⟩, by omega, fun c hc => by rw [(row _ (mem c hc)).1]; exact l2⟩
  · obtain ⟨r1, r2⟩ := row _ (mem c hc)
    obtain ⟨b1, b2⟩ := h.ck c hc
    refine ⟨r1, fun i hi hi2 => ?_, b1, b2⟩
    obtain ⟨k, hk, e⟩ := r2 i hi hi2
    have cc := (cnt_le (h.sh.d _ (List.getElem_mem hi2))).2
    rw [e]
    unfold mx
    omega
  · have pw := List.pairwise_iff_getElem.mp (asc.sublist hs) i (i + 1) (by rw [List.length_map]; omega) (by rw [List.length_map]; exact hi) (Nat.lt_succ_self i)
    rw [List.getElem_map, List.getElem_map] at pw
    exact pw
theorem drAs {as : List Ar} (h : DrAs as) : GAs as ∧ as.length ≤ 2 ∧ ∀ r ∈ as, r.n ∈ NMS := by
  obtain ⟨k, hk, hn⟩ := h.n
  have l := congrArg List.length hn
  rw [List.length_map, List.length_take] at l
  have e2 : (["a", "b2"] : List Str).length = 2 := rfl
  have nm : ∀ r ∈ as, r.n ∈ NMS := fun r hr => by
    have hm : r.n ∈ (["a", "b2"] : List Str) := List.mem_of_mem_take (hn ▸ List.mem_map.mpr ⟨r, hr, rfl⟩)
    simp only [List.mem_cons, List.not_mem_nil, or_false] at hm
    rcases hm with e | e <;> (rw [e]; decide +kernel)
  refine ⟨⟨by omega, fun r hr => ⟨nm r hr, drSh (h.ar r hr).sh, (drCs (h.ar r hr)).1⟩, fun i hi => ?_⟩, by omega, nm⟩
  have i0 : i = 0 := by omega
  subst i0
  have k2 : k = 2 := by omega
  subst k2
  have n0 : as[0].n = "a" := by
    have : (as.map (·.n))[0]? = some ("a" : Str) := by rw [hn]; rfl
    rw [List.getElem?_map, List.getElem?_eq_getElem (by omega)] at this
    exact Option.some.inj this
  have n1 : as[0 + 1].n = "b2" := by
    have : (as.map (·.n))[1]? = some ("b2" : Str) := by rw [hn]; rfl
    rw [List.getElem?_map, List.getElem?_eq_getElem (by omega)] at this
    exact Option.some.inj this
  rw [n0, n1]
  decide +kernel
theorem drRt {up da : Int} {rs : List Ve} (h : DrRt up da rs) : GRt up da rs := by
  refine ⟨h.u, h.d, Nat.le_trans h.len (by decide), fun r hr => ?_, h.asc⟩
  obtain ⟨h1, h2, h3⟩ := h.as r hr
  exact ⟨h2, by omega, (drAs h1).1⟩
theorem fm_le {α : Type} (f : α → List Int) (b : Nat) : ∀ (l : List α), (∀ x ∈ l, (f x).length ≤ b) → (l.flatMap f).length ≤ l.length * b
  | [], _ => by simp
  | x :: l, h => by
    rw [List.flatMap_cons, List.length_append, List.length_cons, Nat.succ_mul]
    have h1 := h x List.mem_cons_self
    have h2 := fm_le f b l fun y hy => h y (List.mem_cons_of_mem _ hy)
    omega
theorem drGV {up da : Int} {rs : List Ve} (h : DrRt up da rs) : GV rs := fun v hv r hr => by
  obtain ⟨h1, _⟩ := h.as v hv
  have nm := (drAs h1).2.2 r hr
  have g := drSh ((h1.ar r hr).sh)
  refine ⟨Nat.le_trans (nms_len _ nm) (by decide), fun d hd => ⟨Nat.le_trans (nms_len _ (g.d d hd).nm) (by decide)⟩, fun t ht => ⟨Nat.le_trans (nms_len _ (g.t t ht).nm) (by decide), (g.t t ht).k⟩⟩
theorem wn_len (n : Str) : (wn n).length = n.length + 1 := by
  show (nmo n).length + 1 = _
  rw [nmo_len]
theorem drLen {up da : Int} {rs : List Ve} (h : DrRt up da rs) : (eRt up da rs).length ≤ 900000 := by
  have hv : ∀ v ∈ rs, (eVe v).length ≤ 4000 := fun v hv => by
    obtain ⟨h1, _⟩ := h.as v hv
    obtain ⟨_, la, nm⟩ := drAs h1
    have ha : ∀ r ∈ v.as, (eAr r).length ≤ 1500 := fun r hr => by
      have hr1 := h1.ar r hr
      obtain ⟨_, lc, cl⟩ := drCs hr1
      have g := drSh hr1.sh
      obtain ⟨ld, lt⟩ := drSh_len hr1.sh
      have hn := nms_len _ (nm r hr)
      have hd := fm_le eD 15 r.ds fun d hd => by
        have := nms_len _ (g.d d hd).nm
        unfold eD
        simp only [List.length_append, wn_len]
        show d.n.length + 1 + 4 + 4 + 4 ≤ 15
        omega
      have ht := fm_le eT 4 r.ts fun t ht => by
        have := nms_len _ (g.t t ht).nm
        unfold eT
        simp only [List.length_append, wn_len]
        show t.n.length + 1 + 1 ≤ 4
        omega
      have hc := fm_le eCk 16 r.cs fun c hc => by
        have h1 := cl c hc
        unfold eCk
        have h2 := fm_le w4 4 (c.c ++ [c.o, c.l]) fun x _ => Nat.le_refl 4
        rw [List.length_append] at h2
        have e2 : [c.o, c.l].length = 2 := rfl
        omega
      unfold eAr eSh eCs
      simp only [List.length_append, wn_len]
      have e1 : [(r.ds.length : Int)].length = 1 := rfl
      have e2 : [(r.ts.length : Int)].length = 1 := rfl
      have e3 : (w4 (r.cs.length : Int)).length = 4 := rfl
      omega
    have := fm_le eAr 1500 v.as ha
    unfold eVe
    simp only [List.length_append]
    have e1 : (w4 v.no).length = 4 := rfl
    have e2 : (w4 (v.as.length : Int)).length = 4 := rfl
    omega
  have := fm_le eVe 4000 rs hv
  have l3 := h.len
  unfold eRt
  simp only [List.length_append]
  have e1 : (w4 up).length = 4 := rfl
  have e2 : (w4 da).length = 4 := rfl
  have e3 : (w4 (rs.length : Int)).length = 4 := rfl
  have e4 : ([77, 83] : List Int).length = 2 := rfl
  omega
end K2

namespace K2
open PySem L2
theorem Ex.freeS {H H1 : Hp} {S p : Addr} (x : Ex H H1 S) (t : SAt H1 S) (h : H1 p = none) : H p = none := by
  cases e : H p with
  | none => rfl
  | some o =>
    have n : p ≠ S := fun z => by
      obtain ⟨a, b, f⟩ := t
      rw [z, f] at h
      cases h
    rw [x p o e n] at h
    cases h
theorem SAt.ne {H : Hp} {S p : Addr} (t : SAt H S) (h : H p = none) : p ≠ S := fun z => by
  obtain ⟨a, b, f⟩ := t
  rw [z, f] at h
  cases h
theorem Ex.put {H H1 : Hp} {S p : Addr} {o : HO} (x : Ex H H1 S) (h : H p = none) : Ex H (upd H1 p o) S := fun a u e n => by
  rw [upd_ne (fun z => by rw [z, h] at e; cases e)]
  exact x a u e n
theorem SAt.put {H : Hp} {S p : Addr} {o : HO} (t : SAt H S) (h : p ≠ S) : SAt (upd H p o) S := by
  obtain ⟨a, b, f⟩ := t
  exact ⟨a, b, by rw [upd_ne h.symm]; exact f⟩
theorem SAt.same {H H1 : Hp} {S : Addr} (t : SAt H S) (s : Same H H1) : SAt H1 S := by
  obtain ⟨a, b, f⟩ := t
  exact ⟨a, b, s _ _ f⟩
theorem cut_ab {v : Int} (h0 : 0 ≤ v) (h1 : v < 3) : ∃ k, k ≤ 2 ∧ cutV [V.str "a", .str "b2"] none (some v) = ((["a", "b2"] : List Str).take k).map V.str := by
  obtain ⟨k, rfl⟩ : ∃ k : Nat, v = (k : Int) := ⟨v.toNat, by omega⟩
  match k, h1 with
  | 0, _ => exact ⟨0, by decide, rfl⟩
  | 1, _ => exact ⟨1, by decide, rfl⟩
  | 2, _ => exact ⟨2, by decide, rfl⟩
  | n + 3, h => exact absurd h (by omega)
theorem fac_at {v : Int} (h0 : 0 ≤ v) (h1 : v < 3) : ∃ f : Int, 0 ≤ f ∧ f ≤ 60000 ∧ atI [V.int 1, .int 256, .int 60000] v = some (.int f) := by
  obtain ⟨k, rfl⟩ : ∃ k : Nat, v = (k : Int) := ⟨v.toNat, by omega⟩
  match k, h1 with
  | 0, _ => exact ⟨1, by decide, by decide, rfl⟩
  | 1, _ => exact ⟨256, by decide, by decide, rfl⟩
  | 2, _ => exact ⟨60000, by decide, by decide, rfl⟩
  | n + 3, h => exact absurd h (by omega)
theorem rowsF_pos {ds : List D} (h : ∀ d ∈ ds, DrD d) : ∀ i, i ≤ ds.length → 0 < (rowsF (ds.take i)).length
  | 0, _ => by
    rw [List.take_zero]
    exact Nat.one_pos
  | i + 1, hi => by
    have ih := rowsF_pos h i (Nat.le_of_succ_le hi)
    rw [rowsF_succ (Nat.lt_of_succ_le hi)]
    have c := (cnt_le (h _ (List.getElem_mem (Nat.lt_of_succ_le hi)))).2
    have dr := h _ (List.getElem_mem (Nat.lt_of_succ_le hi))
    unfold DrD at dr
    have nn := Int.ediv_nonneg (a := ds[i].h - ds[i].l) (b := ds[i].s) (by omega) (by omega)
    generalize ds[i] = d at c dr nn ⊢
    generalize rowsF (ds.take i) = rs at ih ⊢
    cases rs with
    | nil => exact absurd ih (Nat.lt_irrefl 0)
    | cons r t =>
      unfold rowS
      rw [List.flatMap_cons, List.length_append, List.length_map, List.length_range]
      omega
/-- the versions drawn so far, all below N -/
structure DrV (N : Int) (rs : List Ve) : Prop where
  n0 : 0 ≤ N
  as : ∀ r ∈ rs, DrAs r.as ∧ 1 ≤ r.no ∧ r.no ≤ N
  asc : ∀ (i : Nat) (h : i + 1 < rs.length), rs[i].no < rs[i + 1].no
theorem DrV.push {N M : Int} {rs : List Ve} {as : List Ar} (h : DrV N rs) (hM : N < M) (ha : DrAs as) : DrV M (rs ++ [⟨M, as⟩]) := by
  have n0 := h.n0
  refine ⟨by omega, fun r hr => ?_, fun i hi => ?_⟩
  · rcases List.mem_append.mp hr with z | z
    · obtain ⟨h1, h2, h3⟩ := h.as r z
      exact ⟨h1, h2, by omega⟩
    · rw [List.mem_singleton.mp z]
      exact ⟨ha, by show 1 ≤ M; omega, Int.le_refl _⟩
  · rw [List.length_append] at hi
    have e1 : [(⟨M, as⟩ : Ve)].length = 1 := rfl
    rw [List.getElem_append_left (show i < rs.length by omega)]
    by_cases z : i + 1 < rs.length
    · rw [List.getElem_append_left z]
      exact h.asc i z
    · rw [List.getElem_append_right (by omega)]
      have := (h.as _ (List.getElem_mem (show i < rs.length by omega))).2.2
      have e : i + 1 - rs.length = 0 := by omega
      simp only [e, List.getElem_cons_zero]
      omega
section
variable {P : Program} {w : World} {K : PySem.W.Frag} {mg : Str → Option Value} {base : Heap}
def spLR (K : PySem.W.Frag) (CR C : Addr) : Sp := fun vs H Q _ => ∃ (S scr : Addr) (ns : List Int), vs = [.ref S, .ref scr] ∧ SAt H S ∧ (∀ H', Ex H H' S → SqL K H' scr (ns.map V.int)) ∧
  ∀ H' v up da rs, Ex H H' S → SAt H' S → RtAt H' CR C v up da rs → DrRt up da rs → Q v H'
theorem scLR : FnScope ["state", "script", "versions", "number", "k", "arrays", "name", "shape", "chunks", "chunk"] ["state", "script"] (defScope sLRoot) := ⟨rfl, rfl, rfl, by decide +kernel, rfl, by decide +kernel, by decide +kernel⟩
theorem ok_lr {f fD fS fC fR CR C : Addr} {fd fdD fdS fdC fdR : FuncData} (F : Fun K "_law_root" "_law_root" sLRoot f fd) (M : Nm mg)
    (GD : FnOk P w K mg base CX0 1 fD fdD ["state", "script", "size"] (spDraw K)) (kD : PySem.W.keepIn K (.ref fD) = true) (bD : Binds K fdD ["state", "script", "size"] []) (gD : mg "_law_draw" = some (.ref fD))
    (GS : FnOk P w K mg base CX0 3 fS fdS ["state", "script"] (spLSh K C)) (kS : PySem.W.keepIn K (.ref fS) = true) (bS : Binds K fdS ["state", "script"] []) (gS : mg "_law_shape" = some (.ref fS))
    (GC : FnOk P w K mg base CX0 1 fC fdC ["shape"] (spLC C)) (kC : PySem.W.keepIn K (.ref fC) = true) (bC : Binds K fdC ["shape"] []) (gC : mg "_law_chunks" = some (.ref fC))
    (R : KC K CR fR RHf) (GR : FnOk P w K mg base CX0 1 fR fdR ["self", "upcoming", "data", "versions"] (RIn CR C)) (bR : Binds K fdR ["self", "upcoming", "data", "versions"] []) (gR : mg "Root" = some (.ref CR)) : FnOk P w K mg base CX0 4 f fd ["state", "script"] (spLR K CR C) := by
  refine F.ok scLR (fun vs H Q E h => ?_) (fun cdv A outer s H vs Q E hr h => ?_)
  · obtain ⟨S, scr, ns, rfl, _⟩ := h
    rfl
  · obtain ⟨S, scr, ns, rfl, hS, sq, q⟩ := h
    have hr1 := hr.mono (j := 1) (by decide)
    have hr2 := hr.mono (j := 2) (by decide)
    refine ⟨_, pss_cons (ps_set (i := 2) scLR.nd rfl (.inl rfl) (pe_lst pa_nil))
      (pss_cons (ps_set (i := 3) scLR.nd rfl (.inl rfl) pe_int)
      (Evl.pss_cut (ps_for PassesOwn.never rfl (pi_range1 (by rfl) M.range (pa_cons (pe_call GD hr1 (by rfl) gD kD bD .nil pass0 (pa_cons (pv 0) (pa_cons (pv 1) (pa_cons pe_int pa_nil)))) pa_nil)) (pg_name (i := 4) scLR.nd rfl (.inl rfl)) (pss_cons (ps_set (i := 3) scLR.nd rfl (.inl rfl) (pe_op op_add (pe_op op_add (pv 3) pe_int) (pe_call GD hr1 (by rfl) gD kD bD .nil pass0 (pa_cons (pv 0) (pa_cons (pv 1) (pa_cons pe_int pa_nil))))))
      (pss_cons (ps_set (i := 5) scLR.nd rfl (.inl rfl) (pe_lst pa_nil))
      (Evl.pss_cut (ps_for PassesOwn.never rfl (pi_list (pe_slice sl_list (pe_lst (pa_cons pe_str (pa_cons pe_str pa_nil))) po_none (po_some (pe_call GD hr1 (by rfl) gD kD bD .nil pass0 (pa_cons (pv 0) (pa_cons (pv 1) (pa_cons pe_int pa_nil))))))) (pg_name (i := 6) scLR.nd rfl (.inl rfl)) (pss_cons (ps_set (i := 7) scLR.nd rfl (.inl rfl) (pe_call GS hr (by rfl) gS kS bS .nil pass0 (pa_cons (pv 0) (pa_cons (pv 1) pa_nil))))
      (pss_cons (ps_set (i := 8) scLR.nd rfl (.inl rfl) (pe_lst pa_nil))
      (Evl.pss_cut (ps_for PassesOwn.never rfl (pi_list (pe_call GC hr1 (by rfl) gC kC bC .nil pass0 (pa_cons (pv 7) pa_nil))) (pg_name (i := 9) scLR.nd rfl (.inl rfl)) (pss_one (ps_if (pt_cmpR op_eq (pe_call GD hr1 (by rfl) gD kD bD .nil pass0 (pa_cons (pv 0) (pa_cons (pv 1) (pa_cons pe_int pa_nil)))) pe_int (nomark _)) (pss_one (ps_expr (pe_bm PySem.F.plainAttrs_list PySem.F.slot_list_append PySem.F.type_list_append mt_append (pv 8) (pa_cons (pe_tup (pa_cons (pv 9) (pa_cons (pe_op op_mul (pe_ix ix_list (pe_lst (pa_cons pe_int (pa_cons pe_int (pa_cons pe_int pa_nil)))) (pe_call GD hr1 (by rfl) gD kD bD .nil pass0 (pa_cons (pv 0) (pa_cons (pv 1) (pa_cons pe_int pa_nil)))) (fun _ _ => rfl)) (pe_call GD hr1 (by rfl) gD kD bD .nil pass0 (pa_cons (pv 0) (pa_cons (pv 1) (pa_cons pe_int pa_nil))))) (pa_cons (pe_call GD hr1 (by rfl) gD kD bD .nil pass0 (pa_cons (pv 0) (pa_cons (pv 1) (pa_cons pe_int pa_nil)))) pa_nil)))) pa_nil)))) pss_nil)))
      (pss_one (ps_expr (pe_bm PySem.F.plainAttrs_list PySem.F.slot_list_append PySem.F.type_list_append mt_append (pv 5) (pa_cons (pe_tup (pa_cons (pv 6) (pa_cons (pv 7) (pa_cons (pe_callTy call_tuple_of (by rfl) M.tuple (by decide +kernel) (pa_cons (pv 8) pa_nil)) pa_nil)))) pa_nil))))))))
      (pss_one (ps_expr (pe_bm PySem.F.plainAttrs_list PySem.F.slot_list_append PySem.F.type_list_append mt_append (pv 2) (pa_cons (pe_tup (pa_cons (pv 3) (pa_cons (pe_callTy call_tuple_of (by rfl) M.tuple (by decide +kernel) (pa_cons (pv 5) pa_nil)) pa_nil))) pa_nil))))))))
      (pss_one (ps_ret (pe_make R.mkC GR hr2 (by rfl) gR bR .nil pass0 (pa_cons (pe_op op_add (pe_op op_add (pv 3) pe_int) (pe_call GD hr1 (by rfl) gD kD bD .nil pass0 (pa_cons (pv 0) (pa_cons (pv 1) (pa_cons pe_int pa_nil))))) (pa_cons (pe_call GD hr1 (by rfl) gD kD bD .nil pass0 (pa_cons (pv 0) (pa_cons (pv 1) (pa_cons pe_int pa_nil)))) (pa_cons (pe_callTy call_tuple_of (by rfl) M.tuple (by decide +kernel) (pa_cons (pv 2) pa_nil)) pa_nil)))))))), ?_⟩
    refine ⟨Nat.zero_le _, fun lv nlv => ?_⟩
    have x0 : Ex H (upd H lv (.lst [])) S := Same.ex (same_new nlv)
    have nlvS := hS.ne nlv
    have st0 : SAt (upd H lv (.lst [])) S := hS.put nlvS
    refine ⟨fun σ H2 => ∃ N y4 y5 y6 y7 y8 y9 ws rs, σ = [some (.ref S), some (.ref scr), some (.ref lv), some (.int N), y4, y5, y6, y7, y8, y9] ∧ Ex H H2 S ∧ SAt H2 S ∧ H2 lv = some (.lst ws) ∧ All (VeAt H2 C) ws rs ∧ DrV N rs ∧ N ≤ 2000 ∧ rs.length ≤ 3, ?_, ?_⟩
    · refine ⟨_, rfl, _, rfl, S, scr, 4, ns, rfl, by decide, by decide, st0, sq _ x0, fun H1 v k1 t1 v0 v1 => ?_⟩
      refine ⟨v, rfl, by omega, by omega, for_range (lo := 0) (n := v.toNat) (fun i σ H2 => ∃ N y4 y5 y6 y7 y8 y9 ws rs, σ = [some (.ref S), some (.ref scr), some (.ref lv), some (.int N), y4, y5, y6, y7, y8, y9] ∧ Ex H H2 S ∧ SAt H2 S ∧ H2 lv = some (.lst ws) ∧ All (VeAt H2 C) ws rs ∧ DrV N rs ∧ N ≤ 300 * (i : Int) ∧ rs.length = i) ?_ ?_ ?_⟩
      · exact ⟨0, none, none, none, none, none, none, [], [], rfl, x0.trans k1, t1, k1 _ _ upd_same nlvS, All.nil, ⟨by decide, fun r h => absurd h List.not_mem_nil, fun i h => absurd h (Nat.not_lt_zero _)⟩, by decide, rfl⟩
      · rintro i σ H2 hi ⟨N, y4, y5, y6, y7, y8, y9, ws, rs, rfl, x2, t2, elv, al, dv, hN, hlen⟩
        refine ⟨_, rfl, _, _, rfl, rfl, _, rfl, _, rfl, S, scr, 300, ns, rfl, by decide, by decide, t2, sq _ x2, fun H3 v3 k3 t3 a0 a1 => ⟨_, _, rfl, rfl, ?_⟩⟩
        refine ⟨Nat.zero_le _, fun la nla => ?_⟩
        have nlaS := t3.ne nla
        have k3' : Ex H2 H3 S := k3
        have nlaH2 : H2 la = none := k3'.freeS t3 nla
        have x4 : Ex H2 (upd H3 la (.lst [])) S := k3'.put nlaH2
        have t4 : SAt (upd H3 la (.lst [])) S := t3.put nlaS
        refine ⟨fun σ H7 => ∃ y6 y7 y8 y9 ws2 as, σ = [some (.ref S), some (.ref scr), some (.ref lv), some (.int (N + 1 + v3)), some (.int (0 + (i : Int))), some (.ref la), y6, y7, y8, y9] ∧ Ex H2 H7 S ∧ SAt H7 S ∧ H7 la = some (.lst ws2) ∧ All (ArAt H7 C) ws2 as ∧ DrAs as, ?_, ?_⟩
        · refine ⟨(by show 2 ≤ sizeLine; decide), fun L nL => ?_⟩
          have nLS := t4.ne nL
          have sL := same_new (o := .lst [.str "a", .str "b2"]) nL
          have t4' := t4.same sL
          have x4' := x4.same sL
          refine ⟨_, rfl, _, rfl, S, scr, 3, ns, rfl, by decide, by decide, t4', sq _ (x2.trans x4'), fun H5 v5 k5 t5 b0 b1 => ?_⟩
          refine ⟨v5, rfl, L, _, rfl, .inl (.inl (k5 _ _ upd_same nLS)), fun L2 nL2 => ?_⟩
          obtain ⟨nk, hnk, ecut⟩ := cut_ab b0 b1
          rw [ecut]
          have nL2S := t5.ne nL2
          have x5 : Ex H2 H5 S := x4'.trans k5
          have nL2H2 : H2 L2 = none := x5.freeS t5 nL2
          have ela5 : H5 la = some (.lst []) := k5 _ _ (sL _ _ upd_same) nlaS
          have nL2la : L2 ≠ la := fun z => by rw [z, ela5] at nL2; cases nL2
          refine ⟨L2, rfl, ⟨_, .inl (.inl upd_same)⟩, for_it (walk_list (xs := ((["a", "b2"] : List Str).take nk).map V.str)) (fun j σ H7 => ∃ y6 y7 y8 y9 ws2 as, σ = [some (.ref S), some (.ref scr), some (.ref lv), some (.int (N + 1 + v3)), some (.int (0 + (i : Int))), some (.ref la), y6, y7, y8, y9] ∧ Ex H2 H7 S ∧ SAt H7 S ∧ H7 la = some (.lst ws2) ∧ All (ArAt H7 C) ws2 as ∧ H7 L2 = some (.lst (((["a", "b2"] : List Str).take nk).map V.str)) ∧ as.map (·.n) = ((["a", "b2"] : List Str).take nk).take j ∧ ∀ r ∈ as, DrAr r) ?_ ?_ ?_ ?_⟩
          · exact ⟨_, _, _, _, [], [], rfl, x5.put nL2H2, t5.put nL2S, by rw [upd_ne nL2la.symm]; exact ela5, All.nil, upd_same, rfl, fun r h => absurd h List.not_mem_nil⟩
          · rintro j σ H7 hj ⟨y6, y7, y8, y9, ws2, as, rfl, x7, t7, ela7, al7, eL7, _⟩
            exact .inl (.inl eL7)
          · rintro j x σ H7a H7 hj ⟨y6, y7, y8, y9, ws2, as, rfl, x7, t7, ela7, al7, eL7, hn, dr⟩ ⟨rfl, hx⟩
            rw [List.length_map] at hj
            rw [List.getElem?_map, List.getElem?_eq_getElem hj] at hx
            obtain rfl := Option.some.inj hx
            have ltk : ((["a", "b2"] : List Str).take nk).length ≤ 2 := by rw [List.length_take]; exact Nat.min_le_right _ _
            have ehn : ((["a", "b2"] : List Str).take nk).take (j + 1) = ((["a", "b2"] : List Str).take nk).take j ++ [((["a", "b2"] : List Str).take nk)[j]] := by
              rw [List.take_add_one, List.getElem?_eq_getElem hj]
              rfl
            rw [ehn]
            generalize ((["a", "b2"] : List Str).take nk)[j] = nm
            have aslen : as.length ≤ 2 := by
              have := congrArg List.length hn
              rw [List.length_map, List.length_take] at this
              omega
            refine ⟨_, rfl, _, rfl, S, scr, ns, rfl, t7, Ex.sq sq (x2.trans x7), fun H8 v ds ts k8 t8 sh8 drs => ?_⟩
            refine ⟨Nat.zero_le _, fun lc nlc => ?_⟩
            have nlcS := t8.ne nlc
            have s9 := same_new (o := .lst []) nlc
            have x89 : Ex H8 (upd H8 lc (.lst [])) S := Same.ex s9
            have t9 := t8.same s9
            have dl := (drSh_len drs).1
            refine ⟨fun σ H11 => ∃ y9 ws3 cs, σ = [some (.ref S), some (.ref scr), some (.ref lv), some (.int (N + 1 + v3)), some (.int (0 + (i : Int))), some (.ref la), some (.str nm), some v, some (.ref lc), y9] ∧ Ex H8 H11 S ∧ SAt H11 S ∧ H11 lc = some (.lst ws3) ∧ All (CkAt H11) ws3 cs ∧ (cs.map (·.c)).Sublist (rowsF ds) ∧ ∀ c ∈ cs, (0 ≤ c.o ∧ c.o < 4294967296) ∧ 0 ≤ c.l ∧ c.l < 4294967296, ?_, ?_⟩
            · refine ⟨_, rfl, v, ds, ts, rfl, sh8.same s9, drs.d, dl, fun H10 lr rows s10 elr alr => ?_⟩
              have rpos := rowsF_pos drs.d ds.length (Nat.le_refl _)
              rw [List.take_length] at rpos
              have r81 := rowsF_len drs.d dl ds.length
              rw [List.take_length] at r81
              have rl := alr.1
              have t10 := t9.same s10
              have elc10 := s10 _ _ (upd_same (H := H8) (a := lc) (o := .lst []))
              have nlrlc : lr ≠ lc := fun z => by
                rw [z, elc10] at elr
                have := HO.lst.inj (Option.some.inj elr)
                rw [← this] at rl
                exact absurd rl (by show 0 ≠ _; omega)
              have nlrS : lr ≠ S := fun z => by
                obtain ⟨a, b, f⟩ := t10
                rw [z, f] at elr
                have := HO.lst.inj (Option.some.inj elr)
                obtain ⟨y, hy, e, he, _⟩ := alr.2 0 _ (List.getElem?_eq_getElem rpos)
                rw [← this] at hy
                have := Option.some.inj hy
                rw [he] at this
                cases this
              refine ⟨lr, rfl, ⟨_, .inl (.inl elr)⟩, for_it (walk_list (xs := rows)) (fun m σ H11 => ∃ y9 ws3 cs, σ = [some (.ref S), some (.ref scr), some (.ref lv), some (.int (N + 1 + v3)), some (.int (0 + (i : Int))), some (.ref la), some (.str nm), some v, some (.ref lc), y9] ∧ Ex H8 H11 S ∧ SAt H11 S ∧ H11 lc = some (.lst ws3) ∧ All (CkAt H11) ws3 cs ∧ H11 lr = some (.lst rows) ∧ All (IsAt H11) rows (rowsF ds) ∧ (cs.map (·.c)).Sublist ((rowsF ds).take m) ∧ ∀ c ∈ cs, (0 ≤ c.o ∧ c.o < 4294967296) ∧ 0 ≤ c.l ∧ c.l < 4294967296) ?_ ?_ ?_ ?_⟩
              · exact ⟨_, [], [], rfl, x89.same s10, t10, elc10, All.nil, elr, alr, List.Sublist.refl _, fun c h => absurd h List.not_mem_nil⟩
              · rintro m σ H11 hm ⟨y9, ws3, cs, rfl, x11, t11, elc11, al11, elr11, _⟩
                exact .inl (.inl elr11)
              · rintro m x σ H11a H11 hm ⟨y9, ws3, cs, rfl, x11, t11, elc11, al11, elr11, alr11, sub, bd⟩ ⟨rfl, hx⟩
                have hm2 : m < (rowsF ds).length := by omega
                obtain ⟨e, rfl, he⟩ := alr11.at hm2 hx
                have tk : (rowsF ds).take (m + 1) = (rowsF ds).take m ++ [(rowsF ds)[m]] := by
                  rw [List.take_add_one, List.getElem?_eq_getElem hm2]
                  rfl
                have csl : cs.length ≤ 81 := by
                  have := sub.length_le
                  rw [List.length_map, List.length_take] at this
                  omega
                have wl := al11.1
                rw [tk]
                generalize (rowsF ds)[m] = row at he ⊢
                refine ⟨_, rfl, _, rfl, S, scr, 2, ns, rfl, by decide, by decide, t11, sq _ (x2.trans (x7.trans (k8.trans x11))), fun H12 v12 k12 t12 c0 c1 => ⟨rfl, _, rfl, ?_⟩⟩
                have k12' : Ex H11 H12 S := k12
                have kt12 := kt_ex k12' t11
                have elc12 := k12 _ _ elc11 nlcS
                have elr12 := k12 _ _ elr11 nlrS
                have al12 : All (CkAt H12) ws3 cs := al11.imp fun y c h => h.kt kt12
                have alr12 : All (IsAt H12) rows (rowsF ds) := alr11.imp fun y c h => RowAt.kt h kt12
                have x12 : Ex H8 H12 S := x11.trans k12'
                by_cases ev : v12 = 1
                · refine iteB (by rw [ev]; exact decide_eq_true rfl) ?_
                  have he12 := kt12 _ _ he (fun _ z => nomatch z)
                  refine ⟨_, rfl, .inl ⟨rfl, _, .inl (.inl elc12)⟩, _, rfl, (by show 3 ≤ sizeLine; decide), fun L3 nL3 => ?_⟩
                  have nL3S := t12.ne nL3
                  have s13 := same_new (o := .lst [.int 1, .int 256, .int 60000]) nL3
                  have x13 := x12.same s13
                  have t13 := t12.same s13
                  have xx : Ex H H8 S := x2.trans (x7.trans k8)
                  refine ⟨_, rfl, _, rfl, S, scr, 3, ns, rfl, by decide, by decide, t13, sq _ (xx.trans x13), fun H13 v13 k13 t13' d0 d1 => ?_⟩
                  obtain ⟨fc, fc0, fc1, fat⟩ := fac_at d0 d1
                  have k13' : Ex _ H13 S := k13
                  refine ⟨L3, _, v13, .int fc, rfl, rfl, .inl (.inl (k13 _ _ upd_same nL3S)), fat, _, rfl, _, rfl, S, scr, 70000, ns, rfl, by decide, by decide, t13', sq _ (xx.trans (x13.trans k13')), fun H14 v14 k14 t14 e0 e1 => ⟨_, _, rfl, rfl, .inl ⟨by omega, by omega⟩, ?_⟩⟩
                  have k14' : Ex _ H14 S := k14
                  refine ⟨_, rfl, _, rfl, S, scr, 300, ns, rfl, by decide, by decide, t14, sq _ (xx.trans (x13.trans (k13'.trans k14'))), fun H15 v15 k15 t15 f0 f1 => ⟨(by show 3 ≤ sizeLine; decide), fun t nt => ?_⟩⟩
                  have k15' : Ex _ H15 S := k15
                  have y12 : Ex H12 H15 S := (Same.ex s13).trans (k13'.trans (k14'.trans k15'))
                  have kt15 := kt_ex y12 t12
                  have s16 := same_new (o := .tup [.ref e, .int (fc * v14), .int v15]) nt
                  have elc16 := s16 _ _ (y12 _ _ elc12 nlcS)
                  have kt17 : Kt H12 (upd (upd H15 t (.tup [.ref e, .int (fc * v14), .int v15])) lc (.lst (ws3 ++ [.ref t]))) := kt15.trans ((kt_same s16).trans (kt_upd elc16))
                  have xb : 0 ≤ fc * v14 := Int.mul_nonneg fc0 e0
                  have xc : fc * v14 < 4294967296 := by
                    have : fc * v14 ≤ 60000 * v14 := Int.mul_le_mul_of_nonneg_right fc1 e0
                    omega
                  refine ⟨lc, ws3, .ref t, rfl, rfl, elc16, small1000 (by omega), _, ws3 ++ [.ref t], cs ++ [⟨row, fc * v14, v15⟩], rfl, ?_, ?_, upd_same, ?_, ?_, ?_, ?_, ?_⟩
                  · exact ((x12.trans y12).same s16).put nlc
                  · exact (t15.same s16).put nlcS
                  · refine All.push (al12.imp fun y c h => h.kt kt17) ⟨t, e, rfl, ?_, kt17 _ _ he12 (fun _ z => nomatch z)⟩
                    exact kt_upd elc16 _ _ upd_same (fun _ z => nomatch z)
                  · rw [upd_ne nlrlc]
                    exact s16 _ _ (y12 _ _ elr12 nlrS)
                  · exact alr12.imp fun y c h => RowAt.kt h kt17
                  · rw [List.map_append]
                    exact sub.append (List.Sublist.refl _)
                  · intro c hc
                    rcases List.mem_append.mp hc with z | z
                    · exact bd c z
                    · rw [List.mem_singleton.mp z]
                      exact ⟨⟨xb, xc⟩, f0, by show v15 < 4294967296; omega⟩
                · refine iteBF (decide_eq_false fun z => ev (V.int.inj z)) ?_
                  exact ⟨_, ws3, cs, rfl, x12, t12, elc12, al12, elr12, alr12, sub.trans (List.sublist_append_left _ _), bd⟩
              · rintro σ H11 ⟨y9, ws3, cs, rfl, x11, t11, elc11, al11, elr11, alr11, sub, bd⟩
                rw [rl, List.take_length] at sub
                exact ⟨_, ws3, cs, rfl, x11, t11, elc11, al11, sub, bd⟩
            rintro σ H11 ⟨y9', ws3, cs, rfl, x11, t11, elc11, al11, sub, bd⟩
            have x711 : Ex H7 H11 S := k8.trans x11
            have ela11 := x711 _ _ ela7 nlaS
            refine ⟨_, rfl, .inl ⟨rfl, _, .inl (.inl ela11)⟩, _, rfl, _, rfl, _, rfl, lc, ws3, rfl, .inl ⟨.inl (.inl elc11), fun tc ntc => ⟨(by show 3 ≤ sizeLine; decide), fun t nt => ?_⟩⟩⟩
            have s12 := same_new (o := .tup ws3) ntc
            have s13 := same_new (o := .tup [.str nm, v, .ref tc]) nt
            have s1 := s12.trans s13
            have ela13 := s1 _ _ ela11
            have kt711 := kt_ex x711 t7
            have kt811 := kt_ex x11 t8
            have ku := kt_upd (ys := ws2 ++ [.ref t]) ela13
            have kt14 := (kt_same s1).trans ku
            have wl2 := al7.1
            refine ⟨la, ws2, .ref t, rfl, rfl, ela13, small1000 (by omega), _, _, _, _, ws2 ++ [.ref t], as ++ [⟨nm, ds, ts, cs⟩], rfl, ?_, ?_, upd_same, ?_, ?_, ?_, ?_⟩
            · exact ((x7.trans x711).same s1).put nlaH2
            · exact (t11.same s1).put nlaS
            · refine All.push (al7.imp fun y c h => h.kt (kt711.trans kt14)) ⟨t, v, .ref tc, rfl, ku _ _ upd_same (fun _ z => nomatch z), sh8.kt (kt811.trans kt14), tc, ws3, rfl, ku _ _ (s13 _ _ upd_same) (fun _ z => nomatch z), al11.imp fun y c h => h.kt kt14⟩
            · rw [upd_ne nL2la]
              exact s1 _ _ (x711 _ _ eL7 nL2S)
            · rw [List.map_append, hn]
              rfl
            · intro r hr
              rcases List.mem_append.mp hr with z | z
              · exact dr r z
              · rw [List.mem_singleton.mp z]
                exact ⟨drs, sub, bd⟩
          · rintro σ H7 ⟨y6, y7, y8, y9, ws2, as, rfl, x7, t7, ela7, al7, eL7, hn, dr⟩
            rw [List.length_map, List.take_length] at hn
            exact ⟨_, _, _, _, ws2, as, rfl, x7, t7, ela7, al7, ⟨nk, hnk, hn⟩, dr⟩
        rintro σ H7 ⟨y6', y7', y8', y9', ws2, as, rfl, x7, t7, ela7, al7, dra⟩
        have elv7 := x7 _ _ elv nlvS
        refine ⟨_, rfl, .inl ⟨rfl, _, .inl (.inl elv7)⟩, _, rfl, _, rfl, la, ws2, rfl, .inl ⟨.inl (.inl ela7), fun ta nta => ⟨(by show 2 ≤ sizeLine; decide), fun t nt => ?_⟩⟩⟩
        have s12 := same_new (o := .tup ws2) nta
        have s13 := same_new (o := .tup [.int (N + 1 + v3), .ref ta]) nt
        have s1 := s12.trans s13
        have elv13 := s1 _ _ elv7
        have kt7 := kt_ex x7 t2
        have ku := kt_upd (ys := ws ++ [.ref t]) elv13
        have kt14 := (kt_same s1).trans ku
        have wl := al.1
        refine ⟨lv, ws, .ref t, rfl, rfl, elv13, small1000 (by omega), N + 1 + v3, _, _, _, _, _, _, ws ++ [.ref t], rs ++ [⟨N + 1 + v3, as⟩], rfl, ?_, ?_, upd_same, ?_, dv.push (by omega) dra, by omega, by rw [List.length_append, hlen]; rfl⟩
        · exact ((x2.trans x7).same s1).put nlv
        · exact (t7.same s1).put nlvS
        · exact All.push (al.imp fun y c h => h.kt (kt7.trans kt14)) ⟨t, .ref ta, rfl, ku _ _ upd_same (fun _ z => nomatch z), ta, ws2, rfl, ku _ _ (s13 _ _ upd_same) (fun _ z => nomatch z), al7.imp fun y c h => h.kt kt14⟩
      · rintro σ H2 ⟨N, y4, y5, y6, y7, y8, y9, ws, rs, rfl, x2, t2, elv, al, dv, hN, hlen⟩
        exact ⟨N, _, _, _, _, _, _, ws, rs, rfl, x2, t2, elv, al, dv, by omega, by omega⟩
    rintro σ H2 ⟨N, y4, y5, y6, y7, y8, y9, ws, rs, rfl, x2, t2, elv, al, dv, hN, hlen⟩
    refine ⟨_, rfl, _, _, rfl, rfl, _, rfl, _, rfl, S, scr, 2, ns, rfl, by decide, by decide, t2, sq _ x2, fun H3 v3 k3 t3 a0 a1 => ⟨_, _, rfl, rfl, ?_⟩⟩
    have k3' : Ex H2 H3 S := k3
    refine ⟨_, rfl, _, rfl, S, scr, 3, ns, rfl, by decide, by decide, t3, sq _ (x2.trans k3'), fun H4 v4 k4 t4 b0 b1 => ?_⟩
    have k4' : Ex H3 H4 S := k4
    have x24 : Ex H2 H4 S := k3'.trans k4'
    have kt4 := kt_ex x24 t2
    have elv4 := x24 _ _ elv nlvS
    refine ⟨_, rfl, lv, ws, rfl, .inl ⟨.inl (.inl elv4), fun tv ntv => ?_⟩⟩
    intro a dxa na ndxa nae
    refine ⟨a, dxa, _, _, _, rfl, upd_same, fun H5 x5 e5 => ⟨rfl, ?_⟩⟩
    have s5 : Same H4 H5 := (same_new ntv).trans (mk_same na ndxa x5)
    have n0 := dv.n0
    refine q H5 _ (N + 1 + v3) v4 rs ((x2.trans x24).same s5) (t4.same s5) ⟨a, dxa, .ref tv, rfl, e5, tv, ws, rfl, ?_, al.imp fun y c h => (h.kt kt4).same s5⟩ ⟨hlen, fun r hr => ?_, by omega, by omega, dv.asc⟩
    · exact mk_same na ndxa x5 _ _ upd_same
    · obtain ⟨h1, h2, h3⟩ := dv.as r hr
      exact ⟨h1, h2, by omega⟩
end
end K2

namespace K2
open PySem L2
theorem depth_ints : ∀ os : List Int, PyData.depthAll (os.map PyData.int) ≤ 1
  | [] => by simp [PyData.depthAll]
  | n :: r => by
    have := depth_ints r
    simp [PyData.depthAll, PyData.depth] at this ⊢
    omega
theorem lay_ints : ∀ os : List Int, PyData.canLayAll0 (os.map PyData.int) = true
  | [] => by simp [PyData.canLayAll0]
  | n :: r => by
    have := lay_ints r
    simp [PyData.canLayAll0, PyData.canLay0] at this ⊢
    exact this
theorem shp_of {ds : List PyData} (h1 : PyData.depthAll ds ≤ 1) (h : PyData.canLayAll0 ds = true) : SeqAt.shaped (.list ds) = true := by
  have h2 : PyData.depth (.list ds) ≤ 64 := by
    simp only [PyData.depth]
    omega
  show (PyData.canLay0 (.list ds) && decide (PyData.depth (.list ds) ≤ 64)) = true
  rw [Bool.and_eq_true]
  exact ⟨by simp only [PyData.canLay0]; exact h, decide_eq_true h2⟩
theorem eqv_of {ds : List PyData} (h : PyData.canLayAll0 ds = true) : PyData.eqv (.list ds) (.list ds) = true := SeqAt.eqv_refl _ (by simp only [PyData.canLay0]; exact h)
theorem dp_ints {K : PySem.W.Frag} {H : Hp} : ∀ os : List Int, DpAll K H (os.map V.int) (os.map PyData.int)
  | [] => .nil
  | n :: r => .cons (.int n) (dp_ints r)
theorem ne_ints {K : PySem.W.Frag} {H : Hp} {a b : Addr} {os : List Int} {Q : VK} (ha : H a = some (.lst (os.map V.int))) (hb : H b = some (.lst (os.map V.int))) (q : Q (.bl false) H) : rNeD K (.ref a) (.ref b) H Q := by
  refine ⟨.list (os.map PyData.int), .list (os.map PyData.int), .lst (.inl (.inl ha)) (dp_ints os), .lst (.inl (.inl hb)) (dp_ints os), shp_of (depth_ints os) (lay_ints os), shp_of (depth_ints os) (lay_ints os), ?_⟩
  rw [eqv_of (lay_ints os)]
  exact q
end K2

namespace K2
open PySem L2
def spLaw (K : PySem.W.Frag) : Sp := fun vs H Q _ => ∃ (a : Addr) (ns : List Int), vs = [.ref a] ∧ SqL K H a (ns.map V.int) ∧ ns.length ≤ 63 ∧ ∀ H', Q (.bl true) H'
theorem scLW : FnScope ["script", "state", "root", "octets", "given", "found", "other"] ["script"] (defScope sLaw) := ⟨rfl, rfl, rfl, by decide +kernel, rfl, by decide +kernel, by decide +kernel⟩
section
variable {P : Program} {w : World} {K : PySem.W.Frag} {mg : Str → Option Value} {base : Heap}
theorem ok_law {f fLR fLO fSU fLS fLN fER fDR fR fE fS CR C : Addr} {fd dLR dLO dSU dLS dLN dER dDR dR dE dS : FuncData} (F : Fun K "law" "law" sLaw f fd) (M : Nm mg)
    (GLR : FnOk P w K mg base CX0 4 fLR dLR ["state", "script"] (spLR K CR C)) (kLR : PySem.W.keepIn K (.ref fLR) = true) (bLR : Binds K dLR ["state", "script"] []) (gLR : mg "_law_root" = some (.ref fLR))
    (GLO : FnOk P w K mg base CX0 2 fLO dLO ["root"] (spLO CR C)) (kLO : PySem.W.keepIn K (.ref fLO) = true) (bLO : Binds K dLO ["root"] []) (gLO : mg "_law_octets" = some (.ref fLO))
    (GSU : FnOk P w K mg base CX0 1 fSU dSU ["octets"] (spSum K)) (kSU : PySem.W.keepIn K (.ref fSU) = true) (bSU : Binds K dSU ["octets"] []) (gSU : mg "sum_of" = some (.ref fSU))
    (GLS : FnOk P w K mg base CX0 1 fLS dLS ["octets"] (spSum K)) (kLS : PySem.W.keepIn K (.ref fLS) = true) (bLS : Binds K dLS ["octets"] []) (gLS : mg "_law_sum" = some (.ref fLS))
    (GLN : FnOk P w K mg base CX0 1 fLN dLN ["number"] spW4) (kLN : PySem.W.keepIn K (.ref fLN) = true) (bLN : Binds K dLN ["number"] []) (gLN : mg "_law_number" = some (.ref fLN))
    (GER : FnOk P w K mg base CX0 4 fER dER ["root"] (spER CR C)) (kER : PySem.W.keepIn K (.ref fER) = true) (bER : Binds K dER ["root"] []) (gER : mg "encode_root" = some (.ref fER))
    (GDR : FnOk P w K mg base CX0 7 fDR dDR ["octets"] (spDR CR C)) (kDR : PySem.W.keepIn K (.ref fDR) = true) (bDR : Binds K dDR ["octets"] []) (gDR : mg "decode_root" = some (.ref fDR))
    (R : KC K CR fR RHf) (GR : FnOk P w K mg base CX0 1 fR dR ["self", "upcoming", "data", "versions"] (RIn CR C)) (bR : Binds K dR ["self", "upcoming", "data", "versions"] []) (gR : mg "Root" = some (.ref CR))
    (I : IsiC K CR fE) (GE : FnOk P w K mg base CX0 8 fE dE ["self", "other"] (spREq K CR C)) (bE : Binds K dE ["self", "other"] [])
    (J : IsiC K C fS) (GS : FnOk P w K mg base CX0 3 fS dS ["self", "other"] (spEq (RSh C))) (bS : Binds K dS ["self", "other"] []) : FnOk P w K mg base CX0 9 f fd ["script"] (spLaw K) := by
  refine F.ok scLW (fun vs H Q E h => ?_) (fun cdv A outer s H vs Q E hr h => ?_)
  · obtain ⟨a, ns, rfl, _⟩ := h
    rfl
  · obtain ⟨scr, ns, rfl, hS, hlen, q0⟩ := h
    have hr1 := hr.mono (j := 1) (by decide)
    have hr2 := hr.mono (j := 2) (by decide)
    have hr4 := hr.mono (j := 4) (by decide)
    have hr7 := hr.mono (j := 7) (by decide)
    refine ⟨_, pss_cons (ps_set (i := 1) scLW.nd rfl (.inl rfl) (pe_lst (pa_cons pe_int (pa_cons pe_int pa_nil))))
      (pss_cons (ps_set (i := 2) scLW.nd rfl (.inl rfl) (pe_call GLR hr4 (by rfl) gLR kLR bLR .nil pass0 (pa_cons (pv 1) (pa_cons (pv 0) pa_nil))))
      (pss_cons (ps_set (i := 3) scLW.nd rfl (.inl rfl) (pe_call GLO hr2 (by rfl) gLO kLO bLO .nil pass0 (pa_cons (pv 2) pa_nil)))
      (pss_cons (ps_if (pt_cmpR op_ne (pe_call GSU hr1 (by rfl) gSU kSU bSU .nil pass0 (pa_cons (pe_callTy call_list_of (by rfl) M.list (by decide +kernel) (pa_cons (pv 3) pa_nil)) pa_nil)) (pe_call GLS hr1 (by rfl) gLS kLS bLS .nil pass0 (pa_cons (pv 3) pa_nil)) (nomark _)) (pss_one (ps_ret pe_bl)) pss_nil)
      (pss_cons (ps_set (i := 3) scLW.nd rfl (.inl rfl) (pe_op op_cat (pv 3) (pe_call GLN hr1 (by rfl) gLN kLN bLN .nil pass0 (pa_cons (pe_call GLS hr1 (by rfl) gLS kLS bLS .nil pass0 (pa_cons (pv 3) pa_nil)) pa_nil))))
      (pss_cons (ps_if (pt_cmpR (op_neD hr.units) (pe_call GER hr4 (by rfl) gER kER bER .nil pass0 (pa_cons (pv 2) pa_nil)) (pv 3) (nomark _)) (pss_one (ps_ret pe_bl)) pss_nil)
      (pss_cons (ps_set (i := 4) scLW.nd rfl (.inl rfl) (pe_callTy call_list_of (by rfl) M.list (by decide +kernel) (pa_cons (pv 3) pa_nil)))
      (pss_cons (ps_set (i := 5) scLW.nd rfl (.inl rfl) (pe_call GDR hr7 (by rfl) gDR kDR bDR .nil pass0 (pa_cons (pv 4) pa_nil)))
      (pss_cons (ps_if (PW.pt (pw_or (pt_not (pt_cmpR (op_owneq I.eq I.ef GE bE hr pass0) (pv 5) (pv 2) (nomark _))) (pw_or (pt_cmpR (op_neD hr.units) (pv 4) (pv 3) (nomark _)) (pw_or (pt_cmpR op_ne (pe_fld (pv 5) rfl) (pe_fld (pv 2) rfl) (nomark _)) (pw_or1 (pt_cmpR (op_neTup m7 (eqL7 (eqG_ins GS J.eq J.ef bS pass0)) hr7) (pe_fld (pv 5) rfl) (pe_fld (pv 2) rfl) (nomark _))))))) (pss_one (ps_ret pe_bl)) pss_nil)
      (pss_cons (ps_set (i := 6) scLW.nd rfl (.inl rfl) (pe_make R.mkC GR hr2 (by rfl) gR bR .nil pass0 (pa_cons (pe_fld (pv 2) rfl) (pa_cons (pe_op op_add (pe_fld (pv 2) rfl) pe_int) (pa_cons (pe_fld (pv 2) rfl) pa_nil)))))
      (pss_one (ps_ret (pe_and (pe_not (pe_cmpR (op_owneq I.eq I.ef GE bE hr pass0) (pv 5) (pv 6) (nomark _))) (pe_one (pe_not (pe_cmpR (op_owneq I.eq I.ef GE bE hr pass0) (pv 5) (pe_tup (pa_cons (pe_fld (pv 2) rfl) (pa_cons (pe_fld (pv 2) rfl) (pa_cons (pe_fld (pv 2) rfl) pa_nil)))) (nomark _)))))))))))))))), ?_⟩
    have nU : NoAttr K CR "upcoming" := R.na _ (by decide +kernel)
    have nD : NoAttr K CR "data" := R.na _ (by decide +kernel)
    have nV : NoAttr K CR "versions" := R.na _ (by decide +kernel)
    refine ⟨(by show 2 ≤ sizeLine; decide), fun S nS => ?_⟩
    refine ⟨_, rfl, _, rfl, S, scr, ns, rfl, ⟨0, 0, upd_same⟩, fun H1 x => SqL.keepS hS fun o e => x _ _ (same_new nS _ _ e) (ne_of_none e nS), fun H2 v up da rs x2 t2 rt2 dr => ?_⟩
    refine ⟨_, rfl, v, up, da, rs, rfl, rt2, drGV dr, drLen dr, fun H3 p oc => ?_⟩
    have rt3 := rt2.same oc.s
    refine ⟨_, rfl, p, _, rfl, .inl (.inl (.inl oc.e)), fun l nl => ⟨l, _, rfl, .inl (.inl upd_same), ?_⟩⟩
    have s4 := same_new (o := .lst ((eRt up da rs).map V.int)) nl
    refine ⟨_, rfl, p, _, rfl, .inl (.inl (s4 _ _ oc.e)), rfl, _, rfl, ?_⟩
    refine iteBF (by rw [decide_eq_true rfl]; rfl) ?_
    refine ⟨_, rfl, _, rfl, p, _, rfl, .inl (.inl (s4 _ _ oc.e)), _, rfl, fun p4 n4 => ?_⟩
    have s5 := same_new (o := .lst ((w4 (sumO (eRt up da rs))).map V.int)) n4
    have len := drLen dr
    refine ⟨p, p4, _, _, rfl, rfl, s5 _ _ (s4 _ _ oc.e), upd_same, ?_, fun p5 n5 => ?_⟩
    · rw [List.length_map, List.length_map]
      exact big (by have : (w4 (sumO (eRt up da rs))).length = 4 := rfl; omega)
    have s6 := same_new (o := .lst ((eRt up da rs).map V.int ++ (w4 (sumO (eRt up da rs))).map V.int)) n5
    obtain ⟨os, hos⟩ : ∃ os, os = eRt up da rs ++ w4 (sumO (eRt up da rs)) := ⟨_, rfl⟩
    have e6 : (upd (upd (upd H3 l (.lst ((eRt up da rs).map V.int))) p4 (.lst ((w4 (sumO (eRt up da rs))).map V.int))) p5 (.lst ((eRt up da rs).map V.int ++ (w4 (sumO (eRt up da rs))).map V.int))) p5 = some (.lst (os.map V.int)) := by
      rw [upd_same, hos, List.map_append]
    have rt6 := ((rt3.same s4).same s5).same s6
    refine ⟨_, rfl, v, up, da, rs, rfl, rt6, drGV dr, drLen dr, fun H7 p7 s7 n7 e7 => ?_⟩
    rw [← hos] at e7
    refine ⟨_, rfl, ne_ints e7 (s7 _ _ e6) ⟨_, rfl, iteF ?_⟩⟩
    refine ⟨_, rfl, p5, _, rfl, .inl (.inl (.inl (s7 _ _ e6))), fun g ng => ?_⟩
    have s8 := same_new (o := .lst (os.map V.int)) ng
    refine ⟨_, rfl, g, up, da, rs, rfl, ?_, drRt dr, fun H9 fv s9 rt9 => ?_⟩
    · rw [← hos]
      exact upd_same
    have eg9 := s9 _ _ (upd_same (a := g))
    have e59 := s9 _ _ (s8 _ _ (s7 _ _ e6))
    have rr9 := ((rt6.same s7).same s8).same s9
    obtain ⟨fa, dxf, uf, rfl, hfa, tuf⟩ := rt9
    obtain ⟨ra, dxr, ur, rfl, hra, tur⟩ := rr9
    refine ⟨_, rfl, _, rfl, fa, dxf, _, ra, .ref CR, rfl, rfl, hfa, .ins hra, I.n1, fa, ra, dxf, up, da, uf, rs, rfl, hfa, tuf, .inl ⟨dxr, da, ur, hra, tur, fun z => absurd rfl z, fun _ H10 e10 => ⟨_, rfl, iteF ?_⟩⟩⟩
    refine ⟨_, rfl, _, rfl, ne_ints (e10 _ _ eg9) (e10 _ _ e59) ⟨_, rfl, iteF ?_⟩⟩
    have hfa := e10 _ _ hfa
    have hra := e10 _ _ hra
    have tuf := TupAt.same tuf e10 fun _ _ z => VeAt.same z e10
    have tur := TupAt.same tur e10 fun _ _ z => VeAt.same z e10
    refine ⟨_, rfl, fa, CR, dxf, _, _, rfl, hfa, R.cl, nU, rfl, _, rfl, ra, CR, dxr, _, _, rfl, hra, R.cl, nU, rfl, rfl, _, rfl, iteBF (by rw [decide_eq_true rfl]; rfl) ?_⟩
    refine ⟨_, rfl, fa, CR, dxf, _, _, rfl, hfa, R.cl, nV, rfl, _, rfl, ra, CR, dxr, _, _, rfl, hra, R.cl, nV, rfl, dtup_all tuf tur fun _ _ _ => ve_eq, fun H11 e11 => ⟨_, rfl, iteF ?_⟩⟩
    have hfa := e11 _ _ hfa
    have hra := e11 _ _ hra
    have tuf := TupAt.same tuf e11 fun _ _ z => VeAt.same z e11
    have tur := TupAt.same tur e11 fun _ _ z => VeAt.same z e11
    refine ⟨_, rfl, ra, CR, dxr, _, _, rfl, hra, R.cl, nU, rfl, _, rfl, ra, CR, dxr, _, _, rfl, hra, R.cl, nD, rfl, _, _, rfl, rfl, _, rfl, ra, CR, dxr, _, _, rfl, hra, R.cl, nV, rfl, ?_⟩
    intro a dxa na ndxa nae
    refine ⟨a, dxa, _, _, _, rfl, upd_same, fun H12 x12 e12 => ⟨rfl, ?_⟩⟩
    have s12 : Same H11 H12 := mk_same na ndxa x12
    have hfa := s12 _ _ hfa
    have hra := s12 _ _ hra
    have tuf := TupAt.same tuf s12 fun _ _ z => VeAt.same z s12
    have tur := TupAt.same tur s12 fun _ _ z => VeAt.same z s12
    refine ⟨_, rfl, _, rfl, fa, dxf, _, a, .ref CR, rfl, rfl, hfa, .ins e12, I.n1, fa, a, dxf, up, da, uf, rs, rfl, hfa, tuf, .inl ⟨dxa, da + 1, ur, e12, tur, fun _ => ⟨false, rfl, true, rfl, iteT ?_⟩, fun z => absurd z (by omega)⟩⟩
    refine ⟨_, rfl, _, rfl, ra, CR, dxr, _, _, rfl, hra, R.cl, nU, rfl, _, rfl, ra, CR, dxr, _, _, rfl, hra, R.cl, nD, rfl, _, rfl, ra, CR, dxr, _, _, rfl, hra, R.cl, nV, rfl, (by show 3 ≤ sizeLine; decide), fun t nt => ?_⟩
    have s13 := same_new (o := .tup [.int up, .int da, ur]) nt
    have hfa := s13 _ _ hfa
    have tuf := TupAt.same tuf s13 fun _ _ z => VeAt.same z s13
    exact ⟨fa, dxf, _, t, .type "tuple", rfl, rfl, hfa, .tup (SqT.of upd_same), I.n2, fa, t, dxf, up, da, uf, rs, rfl, hfa, tuf, .inr ⟨_, upd_same, ⟨false, rfl, q0 _⟩⟩⟩
end
end K2

namespace K2
open PySem L2
theorem all_mk {l : PySem.W.OpenLaw} {w : World} {K : PySem.W.Frag} {h : Heap} {mg : Str → Option Value} {fa : Addr} (X : K.In h) (G : h.Ns mainGlobals mg) (hfa : mg "law" = some (.ref fa))
    {f1 : Addr} {od1 an1 : Option Addr} {sl1 : Array (Option Value)} {oc1 kV1 dc1 pm1 cd1 ct1 : Value}
    (a1 : PySem.W.nsIn K mainGlobals "encode_text" = some (some (.ref f1))) (l1 : K.lookup f1 = some ⟨oc1, od1, .func (PySem.W.fnOf "encode_text" "encode_text" (defArgs sEncodeText) (defBody sEncodeText) (defScope sEncodeText) .none kV1 dc1 pm1 an1 cd1 ct1), sl1⟩) (c1 : PySem.W.codeIn K cd1 "encode_text" = true) (k1 : PySem.W.keepIn K (.ref f1) = true)
    {f2 : Addr} {od2 an2 : Option Addr} {sl2 : Array (Option Value)} {oc2 kV2 dc2 pm2 cd2 ct2 : Value}
    (a2 : PySem.W.nsIn K mainGlobals "decode_text" = some (some (.ref f2))) (l2 : K.lookup f2 = some ⟨oc2, od2, .func (PySem.W.fnOf "decode_text" "decode_text" (defArgs sDecodeText) (defBody sDecodeText) (defScope sDecodeText) .none kV2 dc2 pm2 an2 cd2 ct2), sl2⟩) (c2 : PySem.W.codeIn K cd2 "decode_text" = true) (k2 : PySem.W.keepIn K (.ref f2) = true)
    {f3 : Addr} {od3 an3 : Option Addr} {sl3 : Array (Option Value)} {oc3 kV3 dc3 pm3 cd3 ct3 : Value}
    (a3 : PySem.W.nsIn K mainGlobals "is_code" = some (some (.ref f3))) (l3 : K.lookup f3 = some ⟨oc3, od3, .func (PySem.W.fnOf "is_code" "is_code" (defArgs sIsCode) (defBody sIsCode) (defScope sIsCode) .none kV3 dc3 pm3 an3 cd3 ct3), sl3⟩) (c3 : PySem.W.codeIn K cd3 "is_code" = true) (k3 : PySem.W.keepIn K (.ref f3) = true)
    {f4 : Addr} {od4 an4 : Option Addr} {sl4 : Array (Option Value)} {oc4 kV4 dc4 pm4 cd4 ct4 : Value}
    (a4 : PySem.W.nsIn K mainGlobals "character_of" = some (some (.ref f4))) (l4 : K.lookup f4 = some ⟨oc4, od4, .func (PySem.W.fnOf "character_of" "character_of" (defArgs sCharacterOf) (defBody sCharacterOf) (defScope sCharacterOf) .none kV4 dc4 pm4 an4 cd4 ct4), sl4⟩) (c4 : PySem.W.codeIn K cd4 "character_of" = true) (k4 : PySem.W.keepIn K (.ref f4) = true)
    {f5 : Addr} {od5 an5 : Option Addr} {sl5 : Array (Option Value)} {oc5 kV5 dc5 pm5 cd5 ct5 : Value}
    (a5 : PySem.W.nsIn K mainGlobals "check_shape" = some (some (.ref f5))) (l5 : K.lookup f5 = some ⟨oc5, od5, .func (PySem.W.fnOf "check_shape" "check_shape" (defArgs sCheckShape) (defBody sCheckShape) (defScope sCheckShape) .none kV5 dc5 pm5 an5 cd5 ct5), sl5⟩) (c5 : PySem.W.codeIn K cd5 "check_shape" = true) (k5 : PySem.W.keepIn K (.ref f5) = true)
    {f6 : Addr} {od6 an6 : Option Addr} {sl6 : Array (Option Value)} {oc6 kV6 dc6 pm6 cd6 ct6 : Value}
    (a6 : PySem.W.nsIn K mainGlobals "is_dim" = some (some (.ref f6))) (l6 : K.lookup f6 = some ⟨oc6, od6, .func (PySem.W.fnOf "is_dim" "is_dim" (defArgs sIsDim) (defBody sIsDim) (defScope sIsDim) .none kV6 dc6 pm6 an6 cd6 ct6), sl6⟩) (c6 : PySem.W.codeIn K cd6 "is_dim" = true) (k6 : PySem.W.keepIn K (.ref f6) = true)
    {f7 : Addr} {od7 an7 : Option Addr} {sl7 : Array (Option Value)} {oc7 kV7 dc7 pm7 cd7 ct7 : Value}
    (a7 : PySem.W.nsIn K mainGlobals "is_attr" = some (some (.ref f7))) (l7 : K.lookup f7 = some ⟨oc7, od7, .func (PySem.W.fnOf "is_attr" "is_attr" (defArgs sIsAttr) (defBody sIsAttr) (defScope sIsAttr) .none kV7 dc7 pm7 an7 cd7 ct7), sl7⟩) (c7 : PySem.W.codeIn K cd7 "is_attr" = true) (k7 : PySem.W.keepIn K (.ref f7) = true)
    {f8 : Addr} {od8 an8 : Option Addr} {sl8 : Array (Option Value)} {oc8 kV8 dc8 pm8 cd8 ct8 : Value}
    (a8 : PySem.W.nsIn K mainGlobals "is_simple_name" = some (some (.ref f8))) (l8 : K.lookup f8 = some ⟨oc8, od8, .func (PySem.W.fnOf "is_simple_name" "is_simple_name" (defArgs sIsSimpleName) (defBody sIsSimpleName) (defScope sIsSimpleName) .none kV8 dc8 pm8 an8 cd8 ct8), sl8⟩) (c8 : PySem.W.codeIn K cd8 "is_simple_name" = true) (k8 : PySem.W.keepIn K (.ref f8) = true)
    {f9 : Addr} {od9 an9 : Option Addr} {sl9 : Array (Option Value)} {oc9 kV9 dc9 pm9 cd9 ct9 : Value}
    (a9 : PySem.W.nsIn K mainGlobals "sum_of" = some (some (.ref f9))) (l9 : K.lookup f9 = some ⟨oc9, od9, .func (PySem.W.fnOf "sum_of" "sum_of" (defArgs sSumOf) (defBody sSumOf) (defScope sSumOf) .none kV9 dc9 pm9 an9 cd9 ct9), sl9⟩) (c9 : PySem.W.codeIn K cd9 "sum_of" = true) (k9 : PySem.W.keepIn K (.ref f9) = true)
    {f10 : Addr} {od10 an10 : Option Addr} {sl10 : Array (Option Value)} {oc10 kV10 dc10 pm10 cd10 ct10 : Value}
    (a10 : PySem.W.nsIn K mainGlobals "write_four" = some (some (.ref f10))) (l10 : K.lookup f10 = some ⟨oc10, od10, .func (PySem.W.fnOf "write_four" "write_four" (defArgs sWriteFour) (defBody sWriteFour) (defScope sWriteFour) .none kV10 dc10 pm10 an10 cd10 ct10), sl10⟩) (c10 : PySem.W.codeIn K cd10 "write_four" = true) (k10 : PySem.W.keepIn K (.ref f10) = true)
    {f11 : Addr} {od11 an11 : Option Addr} {sl11 : Array (Option Value)} {oc11 kV11 dc11 pm11 cd11 ct11 : Value}
    (a11 : PySem.W.nsIn K mainGlobals "write_name" = some (some (.ref f11))) (l11 : K.lookup f11 = some ⟨oc11, od11, .func (PySem.W.fnOf "write_name" "write_name" (defArgs sWriteName) (defBody sWriteName) (defScope sWriteName) .none kV11 dc11 pm11 an11 cd11 ct11), sl11⟩) (c11 : PySem.W.codeIn K cd11 "write_name" = true) (k11 : PySem.W.keepIn K (.ref f11) = true)
    {f12 : Addr} {od12 an12 : Option Addr} {sl12 : Array (Option Value)} {oc12 kV12 dc12 pm12 cd12 ct12 : Value}
    (a12 : PySem.W.nsIn K mainGlobals "encode_root" = some (some (.ref f12))) (l12 : K.lookup f12 = some ⟨oc12, od12, .func (PySem.W.fnOf "encode_root" "encode_root" (defArgs sEncodeRoot) (defBody sEncodeRoot) (defScope sEncodeRoot) .none kV12 dc12 pm12 an12 cd12 ct12), sl12⟩) (c12 : PySem.W.codeIn K cd12 "encode_root" = true) (k12 : PySem.W.keepIn K (.ref f12) = true)
    {f13 : Addr} {od13 an13 : Option Addr} {sl13 : Array (Option Value)} {oc13 kV13 dc13 pm13 cd13 ct13 : Value}
    (a13 : PySem.W.nsIn K mainGlobals "write_shape" = some (some (.ref f13))) (l13 : K.lookup f13 = some ⟨oc13, od13, .func (PySem.W.fnOf "write_shape" "write_shape" (defArgs sWriteShape) (defBody sWriteShape) (defScope sWriteShape) .none kV13 dc13 pm13 an13 cd13 ct13), sl13⟩) (c13 : PySem.W.codeIn K cd13 "write_shape" = true) (k13 : PySem.W.keepIn K (.ref f13) = true)
    {f14 : Addr} {od14 an14 : Option Addr} {sl14 : Array (Option Value)} {oc14 kV14 dc14 pm14 cd14 ct14 : Value}
    (a14 : PySem.W.nsIn K mainGlobals "write_chunks" = some (some (.ref f14))) (l14 : K.lookup f14 = some ⟨oc14, od14, .func (PySem.W.fnOf "write_chunks" "write_chunks" (defArgs sWriteChunks) (defBody sWriteChunks) (defScope sWriteChunks) .none kV14 dc14 pm14 an14 cd14 ct14), sl14⟩) (c14 : PySem.W.codeIn K cd14 "write_chunks" = true) (k14 : PySem.W.keepIn K (.ref f14) = true)
    {f15 : Addr} {od15 an15 : Option Addr} {sl15 : Array (Option Value)} {oc15 kV15 dc15 pm15 cd15 ct15 : Value}
    (a15 : PySem.W.nsIn K mainGlobals "decode_root" = some (some (.ref f15))) (l15 : K.lookup f15 = some ⟨oc15, od15, .func (PySem.W.fnOf "decode_root" "decode_root" (defArgs sDecodeRoot) (defBody sDecodeRoot) (defScope sDecodeRoot) .none kV15 dc15 pm15 an15 cd15 ct15), sl15⟩) (c15 : PySem.W.codeIn K cd15 "decode_root" = true) (k15 : PySem.W.keepIn K (.ref f15) = true)
    {f16 : Addr} {od16 an16 : Option Addr} {sl16 : Array (Option Value)} {oc16 kV16 dc16 pm16 cd16 ct16 : Value}
    (a16 : PySem.W.nsIn K mainGlobals "read_arrays" = some (some (.ref f16))) (l16 : K.lookup f16 = some ⟨oc16, od16, .func (PySem.W.fnOf "read_arrays" "read_arrays" (defArgs sReadArrays) (defBody sReadArrays) (defScope sReadArrays) .none kV16 dc16 pm16 an16 cd16 ct16), sl16⟩) (c16 : PySem.W.codeIn K cd16 "read_arrays" = true) (k16 : PySem.W.keepIn K (.ref f16) = true)
    {f17 : Addr} {od17 an17 : Option Addr} {sl17 : Array (Option Value)} {oc17 kV17 dc17 pm17 cd17 ct17 : Value}
    (a17 : PySem.W.nsIn K mainGlobals "read_name" = some (some (.ref f17))) (l17 : K.lookup f17 = some ⟨oc17, od17, .func (PySem.W.fnOf "read_name" "read_name" (defArgs sReadName) (defBody sReadName) (defScope sReadName) .none kV17 dc17 pm17 an17 cd17 ct17), sl17⟩) (c17 : PySem.W.codeIn K cd17 "read_name" = true) (k17 : PySem.W.keepIn K (.ref f17) = true)
    {f18 : Addr} {od18 an18 : Option Addr} {sl18 : Array (Option Value)} {oc18 kV18 dc18 pm18 cd18 ct18 : Value}
    (a18 : PySem.W.nsIn K mainGlobals "read_shape" = some (some (.ref f18))) (l18 : K.lookup f18 = some ⟨oc18, od18, .func (PySem.W.fnOf "read_shape" "read_shape" (defArgs sReadShape) (defBody sReadShape) (defScope sReadShape) .none kV18 dc18 pm18 an18 cd18 ct18), sl18⟩) (c18 : PySem.W.codeIn K cd18 "read_shape" = true) (k18 : PySem.W.keepIn K (.ref f18) = true)
    {f19 : Addr} {od19 an19 : Option Addr} {sl19 : Array (Option Value)} {oc19 kV19 dc19 pm19 cd19 ct19 : Value}
    (a19 : PySem.W.nsIn K mainGlobals "read_dim" = some (some (.ref f19))) (l19 : K.lookup f19 = some ⟨oc19, od19, .func (PySem.W.fnOf "read_dim" "read_dim" (defArgs sReadDim) (defBody sReadDim) (defScope sReadDim) .none kV19 dc19 pm19 an19 cd19 ct19), sl19⟩) (c19 : PySem.W.codeIn K cd19 "read_dim" = true) (k19 : PySem.W.keepIn K (.ref f19) = true)
    {f20 : Addr} {od20 an20 : Option Addr} {sl20 : Array (Option Value)} {oc20 kV20 dc20 pm20 cd20 ct20 : Value}
    (a20 : PySem.W.nsIn K mainGlobals "read_attr" = some (some (.ref f20))) (l20 : K.lookup f20 = some ⟨oc20, od20, .func (PySem.W.fnOf "read_attr" "read_attr" (defArgs sReadAttr) (defBody sReadAttr) (defScope sReadAttr) .none kV20 dc20 pm20 an20 cd20 ct20), sl20⟩) (c20 : PySem.W.codeIn K cd20 "read_attr" = true) (k20 : PySem.W.keepIn K (.ref f20) = true)
    {f21 : Addr} {od21 an21 : Option Addr} {sl21 : Array (Option Value)} {oc21 kV21 dc21 pm21 cd21 ct21 : Value}
    (a21 : PySem.W.nsIn K mainGlobals "read_chunks" = some (some (.ref f21))) (l21 : K.lookup f21 = some ⟨oc21, od21, .func (PySem.W.fnOf "read_chunks" "read_chunks" (defArgs sReadChunks) (defBody sReadChunks) (defScope sReadChunks) .none kV21 dc21 pm21 an21 cd21 ct21), sl21⟩) (c21 : PySem.W.codeIn K cd21 "read_chunks" = true) (k21 : PySem.W.keepIn K (.ref f21) = true)
    {f22 : Addr} {od22 an22 : Option Addr} {sl22 : Array (Option Value)} {oc22 kV22 dc22 pm22 cd22 ct22 : Value}
    (a22 : PySem.W.nsIn K mainGlobals "_law_draw" = some (some (.ref f22))) (l22 : K.lookup f22 = some ⟨oc22, od22, .func (PySem.W.fnOf "_law_draw" "_law_draw" (defArgs sDraw) (defBody sDraw) (defScope sDraw) .none kV22 dc22 pm22 an22 cd22 ct22), sl22⟩) (c22 : PySem.W.codeIn K cd22 "_law_draw" = true) (k22 : PySem.W.keepIn K (.ref f22) = true)
    {f23 : Addr} {od23 an23 : Option Addr} {sl23 : Array (Option Value)} {oc23 kV23 dc23 pm23 cd23 ct23 : Value}
    (a23 : PySem.W.nsIn K mainGlobals "_law_shape" = some (some (.ref f23))) (l23 : K.lookup f23 = some ⟨oc23, od23, .func (PySem.W.fnOf "_law_shape" "_law_shape" (defArgs sShape) (defBody sShape) (defScope sShape) .none kV23 dc23 pm23 an23 cd23 ct23), sl23⟩) (c23 : PySem.W.codeIn K cd23 "_law_shape" = true) (k23 : PySem.W.keepIn K (.ref f23) = true)
    {f24 : Addr} {od24 an24 : Option Addr} {sl24 : Array (Option Value)} {oc24 kV24 dc24 pm24 cd24 ct24 : Value}
    (a24 : PySem.W.nsIn K mainGlobals "_law_chunks" = some (some (.ref f24))) (l24 : K.lookup f24 = some ⟨oc24, od24, .func (PySem.W.fnOf "_law_chunks" "_law_chunks" (defArgs sLChunks) (defBody sLChunks) (defScope sLChunks) .none kV24 dc24 pm24 an24 cd24 ct24), sl24⟩) (c24 : PySem.W.codeIn K cd24 "_law_chunks" = true) (k24 : PySem.W.keepIn K (.ref f24) = true)
    {f25 : Addr} {od25 an25 : Option Addr} {sl25 : Array (Option Value)} {oc25 kV25 dc25 pm25 cd25 ct25 : Value}
    (a25 : PySem.W.nsIn K mainGlobals "_law_root" = some (some (.ref f25))) (l25 : K.lookup f25 = some ⟨oc25, od25, .func (PySem.W.fnOf "_law_root" "_law_root" (defArgs sLRoot) (defBody sLRoot) (defScope sLRoot) .none kV25 dc25 pm25 an25 cd25 ct25), sl25⟩) (c25 : PySem.W.codeIn K cd25 "_law_root" = true) (k25 : PySem.W.keepIn K (.ref f25) = true)
    {f26 : Addr} {od26 an26 : Option Addr} {sl26 : Array (Option Value)} {oc26 kV26 dc26 pm26 cd26 ct26 : Value}
    (a26 : PySem.W.nsIn K mainGlobals "_law_number" = some (some (.ref f26))) (l26 : K.lookup f26 = some ⟨oc26, od26, .func (PySem.W.fnOf "_law_number" "_law_number" (defArgs sNumber) (defBody sNumber) (defScope sNumber) .none kV26 dc26 pm26 an26 cd26 ct26), sl26⟩) (c26 : PySem.W.codeIn K cd26 "_law_number" = true) (k26 : PySem.W.keepIn K (.ref f26) = true)
    {f27 : Addr} {od27 an27 : Option Addr} {sl27 : Array (Option Value)} {oc27 kV27 dc27 pm27 cd27 ct27 : Value}
    (a27 : PySem.W.nsIn K mainGlobals "_law_name" = some (some (.ref f27))) (l27 : K.lookup f27 = some ⟨oc27, od27, .func (PySem.W.fnOf "_law_name" "_law_name" (defArgs sLName) (defBody sLName) (defScope sLName) .none kV27 dc27 pm27 an27 cd27 ct27), sl27⟩) (c27 : PySem.W.codeIn K cd27 "_law_name" = true) (k27 : PySem.W.keepIn K (.ref f27) = true)
    {f28 : Addr} {od28 an28 : Option Addr} {sl28 : Array (Option Value)} {oc28 kV28 dc28 pm28 cd28 ct28 : Value}
    (a28 : PySem.W.nsIn K mainGlobals "_law_octets" = some (some (.ref f28))) (l28 : K.lookup f28 = some ⟨oc28, od28, .func (PySem.W.fnOf "_law_octets" "_law_octets" (defArgs sLOctets) (defBody sLOctets) (defScope sLOctets) .none kV28 dc28 pm28 an28 cd28 ct28), sl28⟩) (c28 : PySem.W.codeIn K cd28 "_law_octets" = true) (k28 : PySem.W.keepIn K (.ref f28) = true)
    {f29 : Addr} {od29 an29 : Option Addr} {sl29 : Array (Option Value)} {oc29 kV29 dc29 pm29 cd29 ct29 : Value}
    (a29 : PySem.W.nsIn K mainGlobals "_law_sum" = some (some (.ref f29))) (l29 : K.lookup f29 = some ⟨oc29, od29, .func (PySem.W.fnOf "_law_sum" "_law_sum" (defArgs sLSum) (defBody sLSum) (defScope sLSum) .none kV29 dc29 pm29 an29 cd29 ct29), sl29⟩) (c29 : PySem.W.codeIn K cd29 "_law_sum" = true) (k29 : PySem.W.keepIn K (.ref f29) = true)
    {f30 : Addr} {od30 an30 : Option Addr} {sl30 : Array (Option Value)} {oc30 kV30 dc30 pm30 cd30 ct30 : Value}
    (a30 : PySem.W.nsIn K mainGlobals "law" = some (some (.ref f30))) (l30 : K.lookup f30 = some ⟨oc30, od30, .func (PySem.W.fnOf "law" "law" (defArgs sLaw) (defBody sLaw) (defScope sLaw) .none kV30 dc30 pm30 an30 cd30 ct30), sl30⟩) (c30 : PySem.W.codeIn K cd30 "law" = true) (k30 : PySem.W.keepIn K (.ref f30) = true)
    (z1 : PySem.W.nsIn K mainGlobals "range" = some none)
    (z2 : PySem.W.nsIn K mainGlobals "int" = some none)
    (z3 : PySem.W.nsIn K mainGlobals "len" = some none)
    (z4 : PySem.W.nsIn K mainGlobals "isinstance" = some none)
    (z5 : PySem.W.nsIn K mainGlobals "bool" = some none)
    (z6 : PySem.W.nsIn K mainGlobals "str" = some none)
    (z7 : PySem.W.nsIn K mainGlobals "min" = some none)
    (z8 : PySem.W.nsIn K mainGlobals "max" = some none)
    (z9 : PySem.W.nsIn K mainGlobals "sum" = some none)
    (z10 : PySem.W.nsIn K mainGlobals "abs" = some none)
    (z11 : PySem.W.nsIn K mainGlobals "enumerate" = some none)
    (z12 : PySem.W.nsIn K mainGlobals "tuple" = some none)
    (z13 : PySem.W.nsIn K mainGlobals "list" = some none)
    (z14 : PySem.W.nsIn K mainGlobals "sorted" = some none)
    (z15 : PySem.W.nsIn K mainGlobals "zip" = some none)
    (z16 : PySem.W.nsIn K mainGlobals "reversed" = some none)
    (z17 : PySem.W.nsIn K mainGlobals "dict" = some none)
    (z18 : PySem.W.nsIn K mainGlobals "ValueError" = some none)
    (z19 : PySem.W.nsIn K mainGlobals "all" = some none)
    (z20 : PySem.W.nsIn K mainGlobals "ord" = some none)
    {t1 : Tok} (g1 : PySem.W.nsIn K mainGlobals "SUM_MODULUS" = some (some (.int 65521 t1)))
    {t2 : Tok} (g2 : PySem.W.nsIn K mainGlobals "LIFT" = some (some (.int 2147483648 t2)))
    {t3 : Tok} (g3 : PySem.W.nsIn K mainGlobals "GREATEST_NUMBER" = some (some (.int 4294967295 t3)))
    {t4 : Tok} (g4 : PySem.W.nsIn K mainGlobals "LINE_FEED" = some (some (.int 10 t4)))
    {t5 : Tok} (g5 : PySem.W.nsIn K mainGlobals "SPACE" = some (some (.int 32 t5)))
    {t6 : Tok} (g6 : PySem.W.nsIn K mainGlobals "PERCENT_SIGN" = some (some (.int 37 t6)))
    {t7 : Tok} (g7 : PySem.W.nsIn K mainGlobals "TILDE" = some (some (.int 126 t7)))
    {t8 : Tok} (g8 : PySem.W.nsIn K mainGlobals "CHARACTERS" = some (some (.str CHS2 t8)))
    {t9 : Tok} (g9 : PySem.W.nsIn K mainGlobals "NAME_CHARACTERS" = some (some (.str NCH t9)))
    {t10 : Tok} (g10 : PySem.W.nsIn K mainGlobals "DIGITS" = some (some (.str DIG t10)))
    {t11 : Tok} (g11 : PySem.W.nsIn K mainGlobals "LONGEST_NAME" = some (some (.int 30 t11)))
    {t12 : Tok} (g12 : PySem.W.nsIn K mainGlobals "MOST_DIMS" = some (some (.int 6 t12)))
    {t13 : Tok} (g13 : PySem.W.nsIn K mainGlobals "MOST_ATTRS" = some (some (.int 16 t13)))
    {t14 : Tok} (g14 : PySem.W.nsIn K mainGlobals "FURTHEST" = some (some (.int 1000000 t14)))
    {t15 : Tok} (g15 : PySem.W.nsIn K mainGlobals "LONGEST_STEP" = some (some (.int 1000000 t15)))
    {kK kF : Addr} {K0 K1 K2' F0 F1 : Tok} {nK nF : Nat} {ddF : Option Addr} {slK slF : Array (Option Value)} {O : Addr} {fOI : Addr} {odOI anOI : Option Addr} {slOI : Array (Option Value)} {ocOI kVOI dcOI pmOI cdOI ctOI : Value} {S : Addr} {fSI : Addr} {odSI anSI : Option Addr} {slSI : Array (Option Value)} {ocSI kVSI dcSI pmSI cdSI ctSI : Value} {R : Addr} {fRI : Addr} {odRI anRI : Option Addr} {slRI : Array (Option Value)} {ocRI kVRI dcRI pmRI cdRI ctRI : Value} {fOe : Addr} {odOe anOe : Option Addr} {slOe : Array (Option Value)} {ocOe kVOe dcOe pmOe cdOe ctOe : Value} {fOn : Addr} {odOn anOn : Option Addr} {slOn : Array (Option Value)} {ocOn kVOn dcOn pmOn cdOn ctOn : Value} {fOo : Addr} {odOo anOo : Option Addr} {slOo : Array (Option Value)} {ocOo kVOo dcOo pmOo cdOo ctOo : Value} {fO4 : Addr} {odO4 anO4 : Option Addr} {slO4 : Array (Option Value)} {ocO4 kVO4 dcO4 pmO4 cdO4 ctO4 : Value} {fOi : Addr} {odOi anOi : Option Addr} {slOi : Array (Option Value)} {ocOi kVOi dcOi pmOi cdOi ctOi : Value} {fSE : Addr} {odSE anSE : Option Addr} {slSE : Array (Option Value)} {ocSE kVSE dcSE pmSE cdSE ctSE : Value} {fRE : Addr} {odRE anRE : Option Addr} {slRE : Array (Option Value)} {ocRE kVRE dcRE pmRE cdRE ctRE : Value}
    (eKK : PySem.W.nsIn K mainGlobals "KINDS" = some (some (.ref kK)))
    (lKK : K.lookup kK = some ⟨.type "tuple", none, .seq #[.str "int" K0, .str "flag" K1, .str "text" K2'] nK, slK⟩)
    (eFF : PySem.W.nsIn K mainGlobals "FIRST_OCTETS" = some (some (.ref kF)))
    (lFF : K.lookup kF = some ⟨.type "tuple", ddF, .seq #[.int 77 F0, .int 83 F1] nF, slF⟩)
    (xOe : PySem.W.nsIn K mainGlobals "OctetReader" = some (some (.ref O)))
    (xO1 : PySem.W.makesIn K O = true)
    (xO2 : PySem.W.findIn K (.ref O) "__init__" = some (some (.ref fOI)))
    (xO3 : PySem.W.isFn K (.ref fOI) = true)
    (xO4 : PySem.W.keepIn K (.ref O) = true)
    (xO5 : PySem.W.plainGet K O Str.empty = true)
    (xO6 : PySem.W.hasDictIn K O = true)
    (xO7 : PySem.W.plainOver K O = true)
    (xO8 : PySem.W.findIn K (.ref O) "__setattr__" = some (some (.builtin "object.__setattr__")))
    (xOn0 : PySem.W.findIn K (.ref O) "octets" = some none)
    (xOn1 : PySem.W.findIn K (.ref O) "at" = some none)
    (lOI : K.lookup fOI = some ⟨ocOI, odOI, .func (PySem.W.fnOf "__init__" "OctetReader.__init__" (defArgs sOctetReaderInit) (defBody sOctetReaderInit) (defScope sOctetReaderInit) .none kVOI dcOI pmOI anOI cdOI ctOI), slOI⟩)
    (cOI : PySem.W.codeIn K cdOI "OctetReader.__init__" = true)
    (kOI : PySem.W.keepIn K (.ref fOI) = true)
    (xSe : PySem.W.nsIn K mainGlobals "Shape" = some (some (.ref S)))
    (xS1 : PySem.W.makesIn K S = true)
    (xS2 : PySem.W.findIn K (.ref S) "__init__" = some (some (.ref fSI)))
    (xS3 : PySem.W.isFn K (.ref fSI) = true)
    (xS4 : PySem.W.keepIn K (.ref S) = true)
    (xS5 : PySem.W.plainGet K S Str.empty = true)
    (xS6 : PySem.W.hasDictIn K S = true)
    (xS7 : PySem.W.plainOver K S = true)
    (xS8 : PySem.W.findIn K (.ref S) "__setattr__" = some (some (.builtin "object.__setattr__")))
    (xSn0 : PySem.W.findIn K (.ref S) "dims" = some none)
    (xSn1 : PySem.W.findIn K (.ref S) "attrs" = some none)
    (lSI : K.lookup fSI = some ⟨ocSI, odSI, .func (PySem.W.fnOf "__init__" "Shape.__init__" (defArgs sShInit) (defBody sShInit) (defScope sShInit) .none kVSI dcSI pmSI anSI cdSI ctSI), slSI⟩)
    (cSI : PySem.W.codeIn K cdSI "Shape.__init__" = true)
    (kSI : PySem.W.keepIn K (.ref fSI) = true)
    (xRe : PySem.W.nsIn K mainGlobals "Root" = some (some (.ref R)))
    (xR1 : PySem.W.makesIn K R = true)
    (xR2 : PySem.W.findIn K (.ref R) "__init__" = some (some (.ref fRI)))
    (xR3 : PySem.W.isFn K (.ref fRI) = true)
    (xR4 : PySem.W.keepIn K (.ref R) = true)
    (xR5 : PySem.W.plainGet K R Str.empty = true)
    (xR6 : PySem.W.hasDictIn K R = true)
    (xR7 : PySem.W.plainOver K R = true)
    (xR8 : PySem.W.findIn K (.ref R) "__setattr__" = some (some (.builtin "object.__setattr__")))
    (xRn0 : PySem.W.findIn K (.ref R) "upcoming" = some none)
    (xRn1 : PySem.W.findIn K (.ref R) "data" = some none)
    (xRn2 : PySem.W.findIn K (.ref R) "versions" = some none)
    (lRI : K.lookup fRI = some ⟨ocRI, odRI, .func (PySem.W.fnOf "__init__" "Root.__init__" (defArgs sRootInit) (defBody sRootInit) (defScope sRootInit) .none kVRI dcRI pmRI anRI cdRI ctRI), slRI⟩)
    (cRI : PySem.W.codeIn K cdRI "Root.__init__" = true)
    (kRI : PySem.W.keepIn K (.ref fRI) = true)
    (hn : PySem.W.specialIn K (.builtin "object.__class__") "__get__" = some (some (.builtin "getset_descriptor.__get__")))
    (ht : PySem.W.takesIn K (.builtin "object.__class__") = some true)
    (mOe : PySem.W.findIn K (.ref O) "is_at_end" = some (some (.ref fOe)))
    (hOe : PySem.W.isFn K (.ref fOe) = true)
    (lOe : K.lookup fOe = some ⟨ocOe, odOe, .func (PySem.W.fnOf "is_at_end" "OctetReader.is_at_end" (defArgs sOctetReaderIsAtEnd) (defBody sOctetReaderIsAtEnd) (defScope sOctetReaderIsAtEnd) .none kVOe dcOe pmOe anOe cdOe ctOe), slOe⟩)
    (cOe : PySem.W.codeIn K cdOe "OctetReader.is_at_end" = true)
    (kOe : PySem.W.keepIn K (.ref fOe) = true)
    (mOn : PySem.W.findIn K (.ref O) "next_octets" = some (some (.ref fOn)))
    (hOn : PySem.W.isFn K (.ref fOn) = true)
    (lOn : K.lookup fOn = some ⟨ocOn, odOn, .func (PySem.W.fnOf "next_octets" "OctetReader.next_octets" (defArgs sOctetReaderNextOctets) (defBody sOctetReaderNextOctets) (defScope sOctetReaderNextOctets) .none kVOn dcOn pmOn anOn cdOn ctOn), slOn⟩)
    (cOn : PySem.W.codeIn K cdOn "OctetReader.next_octets" = true)
    (kOn : PySem.W.keepIn K (.ref fOn) = true)
    (mOo : PySem.W.findIn K (.ref O) "next_octet_of" = some (some (.ref fOo)))
    (hOo : PySem.W.isFn K (.ref fOo) = true)
    (lOo : K.lookup fOo = some ⟨ocOo, odOo, .func (PySem.W.fnOf "next_octet_of" "OctetReader.next_octet_of" (defArgs sOctetReaderNextOctetOf) (defBody sOctetReaderNextOctetOf) (defScope sOctetReaderNextOctetOf) .none kVOo dcOo pmOo anOo cdOo ctOo), slOo⟩)
    (cOo : PySem.W.codeIn K cdOo "OctetReader.next_octet_of" = true)
    (kOo : PySem.W.keepIn K (.ref fOo) = true)
    (mO4 : PySem.W.findIn K (.ref O) "next_four" = some (some (.ref fO4)))
    (hO4 : PySem.W.isFn K (.ref fO4) = true)
    (lO4 : K.lookup fO4 = some ⟨ocO4, odO4, .func (PySem.W.fnOf "next_four" "OctetReader.next_four" (defArgs sOctetReaderNextFour) (defBody sOctetReaderNextFour) (defScope sOctetReaderNextFour) .none kVO4 dcO4 pmO4 anO4 cdO4 ctO4), slO4⟩)
    (cO4 : PySem.W.codeIn K cdO4 "OctetReader.next_four" = true)
    (kO4 : PySem.W.keepIn K (.ref fO4) = true)
    (mOi : PySem.W.findIn K (.ref O) "next_four_in" = some (some (.ref fOi)))
    (hOi : PySem.W.isFn K (.ref fOi) = true)
    (lOi : K.lookup fOi = some ⟨ocOi, odOi, .func (PySem.W.fnOf "next_four_in" "OctetReader.next_four_in" (defArgs sOctetReaderNextFourIn) (defBody sOctetReaderNextFourIn) (defScope sOctetReaderNextFourIn) .none kVOi dcOi pmOi anOi cdOi ctOi), slOi⟩)
    (cOi : PySem.W.codeIn K cdOi "OctetReader.next_four_in" = true)
    (kOi : PySem.W.keepIn K (.ref fOi) = true)
    (mSE : PySem.W.findIn K (.ref S) "__eq__" = some (some (.ref fSE)))
    (hSE : PySem.W.isFn K (.ref fSE) = true)
    (lSE : K.lookup fSE = some ⟨ocSE, odSE, .func (PySem.W.fnOf "__eq__" "Shape.__eq__" (defArgs sShEq) (defBody sShEq) (defScope sShEq) .none kVSE dcSE pmSE anSE cdSE ctSE), slSE⟩)
    (cSE : PySem.W.codeIn K cdSE "Shape.__eq__" = true)
    (kSE : PySem.W.keepIn K (.ref fSE) = true)
    (mRE : PySem.W.findIn K (.ref R) "__eq__" = some (some (.ref fRE)))
    (hRE : PySem.W.isFn K (.ref fRE) = true)
    (lRE : K.lookup fRE = some ⟨ocRE, odRE, .func (PySem.W.fnOf "__eq__" "Root.__eq__" (defArgs sRootEq) (defBody sRootEq) (defScope sRootEq) .none kVRE dcRE pmRE anRE cdRE ctRE), slRE⟩)
    (cRE : PySem.W.codeIn K cdRE "Root.__eq__" = true)
    (kRE : PySem.W.keepIn K (.ref fRE) = true)
    (qS1 : PySem.W.notFirst K S (.ref S) = true)
    (qS2 : PySem.W.notFirst K S (.type "tuple") = true)
    (qS3 : PySem.W.findIn K (.ref S) "__class__" = some (some (.builtin "object.__class__")))
    (qS4 : PySem.W.mroIn K S (.type "object") = some true)
    (qS5 : PySem.W.kitOne K (.ref S) (.ref S) = some true)
    (qS6 : PySem.W.kitOne K (.type "tuple") (.ref S) = some false)
    (qR1 : PySem.W.notFirst K R (.ref R) = true)
    (qR2 : PySem.W.notFirst K R (.type "tuple") = true)
    (qR3 : PySem.W.findIn K (.ref R) "__class__" = some (some (.builtin "object.__class__")))
    (qR4 : PySem.W.mroIn K R (.type "object") = some true)
    (qR5 : PySem.W.kitOne K (.ref R) (.ref R) = some true)
    (qR6 : PySem.W.kitOne K (.type "tuple") (.ref R) = some false)
    : ∃ fd : FuncData, (∀ (s : Shared) (v : Value), BindsTo s fd ⟨[v], []⟩ [("script", v)]) ∧ ∀ base : Heap, K.In base → base.Ns mainGlobals mg → FnOk l.prog w K mg base CX0 9 fa fd ["script"] (spLaw K) := by
  have e := hfa.symm.trans (PySem.W.mg_of X G a30)
  cases e
  have F1 := fun_mk (st := sEncodeText) l1 c1 k1
  have F2 := fun_mk (st := sDecodeText) l2 c2 k2
  have F3 := fun_mk (st := sIsCode) l3 c3 k3
  have F4 := fun_mk (st := sCharacterOf) l4 c4 k4
  have F5 := fun_mk (st := sCheckShape) l5 c5 k5
  have F6 := fun_mk (st := sIsDim) l6 c6 k6
  have F7 := fun_mk (st := sIsAttr) l7 c7 k7
  have F8 := fun_mk (st := sIsSimpleName) l8 c8 k8
  have F9 := fun_mk (st := sSumOf) l9 c9 k9
  have F10 := fun_mk (st := sWriteFour) l10 c10 k10
  have F11 := fun_mk (st := sWriteName) l11 c11 k11
  have F12 := fun_mk (st := sEncodeRoot) l12 c12 k12
  have F13 := fun_mk (st := sWriteShape) l13 c13 k13
  have F14 := fun_mk (st := sWriteChunks) l14 c14 k14
  have F15 := fun_mk (st := sDecodeRoot) l15 c15 k15
  have F16 := fun_mk (st := sReadArrays) l16 c16 k16
  have F17 := fun_mk (st := sReadName) l17 c17 k17
  have F18 := fun_mk (st := sReadShape) l18 c18 k18
  have F19 := fun_mk (st := sReadDim) l19 c19 k19
  have F20 := fun_mk (st := sReadAttr) l20 c20 k20
  have F21 := fun_mk (st := sReadChunks) l21 c21 k21
  have F22 := fun_mk (st := sDraw) l22 c22 k22
  have F23 := fun_mk (st := sShape) l23 c23 k23
  have F24 := fun_mk (st := sLChunks) l24 c24 k24
  have F25 := fun_mk (st := sLRoot) l25 c25 k25
  have F26 := fun_mk (st := sNumber) l26 c26 k26
  have F27 := fun_mk (st := sLName) l27 c27 k27
  have F28 := fun_mk (st := sLOctets) l28 c28 k28
  have F29 := fun_mk (st := sLSum) l29 c29 k29
  have F30 := fun_mk (st := sLaw) l30 c30 k30
  have b1 := F1.binds (ps := ["text"]) fun _ _ _ _ _ _ us hl => match us, hl with | [_], _ => rfl
  have b2 := F2.binds (ps := ["octets"]) fun _ _ _ _ _ _ us hl => match us, hl with | [_], _ => rfl
  have b3 := F3.binds (ps := ["octet"]) fun _ _ _ _ _ _ us hl => match us, hl with | [_], _ => rfl
  have b4 := F4.binds (ps := ["code"]) fun _ _ _ _ _ _ us hl => match us, hl with | [_], _ => rfl
  have b5 := F5.binds (ps := ["shape"]) fun _ _ _ _ _ _ us hl => match us, hl with | [_], _ => rfl
  have b6 := F6.binds (ps := ["dim"]) fun _ _ _ _ _ _ us hl => match us, hl with | [_], _ => rfl
  have b7 := F7.binds (ps := ["attr"]) fun _ _ _ _ _ _ us hl => match us, hl with | [_], _ => rfl
  have b8 := F8.binds (ps := ["text"]) fun _ _ _ _ _ _ us hl => match us, hl with | [_], _ => rfl
  have b9 := F9.binds (ps := ["octets"]) fun _ _ _ _ _ _ us hl => match us, hl with | [_], _ => rfl
  have b10 := F10.binds (ps := ["number"]) fun _ _ _ _ _ _ us hl => match us, hl with | [_], _ => rfl
  have b11 := F11.binds (ps := ["name"]) fun _ _ _ _ _ _ us hl => match us, hl with | [_], _ => rfl
  have b12 := F12.binds (ps := ["root"]) fun _ _ _ _ _ _ us hl => match us, hl with | [_], _ => rfl
  have b13 := F13.binds (ps := ["shape"]) fun _ _ _ _ _ _ us hl => match us, hl with | [_], _ => rfl
  have b14 := F14.binds (ps := ["chunks"]) fun _ _ _ _ _ _ us hl => match us, hl with | [_], _ => rfl
  have b15 := F15.binds (ps := ["octets"]) fun _ _ _ _ _ _ us hl => match us, hl with | [_], _ => rfl
  have b16 := F16.binds (ps := ["reader"]) fun _ _ _ _ _ _ us hl => match us, hl with | [_], _ => rfl
  have b17 := F17.binds (ps := ["reader"]) fun _ _ _ _ _ _ us hl => match us, hl with | [_], _ => rfl
  have b18 := F18.binds (ps := ["reader"]) fun _ _ _ _ _ _ us hl => match us, hl with | [_], _ => rfl
  have b19 := F19.binds (ps := ["reader"]) fun _ _ _ _ _ _ us hl => match us, hl with | [_], _ => rfl
  have b20 := F20.binds (ps := ["reader"]) fun _ _ _ _ _ _ us hl => match us, hl with | [_], _ => rfl
  have b21 := F21.binds (ps := ["reader", "shape"]) fun _ _ _ _ _ _ us hl => match us, hl with | [_, _], _ => rfl
  have b22 := F22.binds (ps := ["state", "script", "size"]) fun _ _ _ _ _ _ us hl => match us, hl with | [_, _, _], _ => rfl
  have b23 := F23.binds (ps := ["state", "script"]) fun _ _ _ _ _ _ us hl => match us, hl with | [_, _], _ => rfl
  have b24 := F24.binds (ps := ["shape"]) fun _ _ _ _ _ _ us hl => match us, hl with | [_], _ => rfl
  have b25 := F25.binds (ps := ["state", "script"]) fun _ _ _ _ _ _ us hl => match us, hl with | [_, _], _ => rfl
  have b26 := F26.binds (ps := ["number"]) fun _ _ _ _ _ _ us hl => match us, hl with | [_], _ => rfl
  have b27 := F27.binds (ps := ["name"]) fun _ _ _ _ _ _ us hl => match us, hl with | [_], _ => rfl
  have b28 := F28.binds (ps := ["root"]) fun _ _ _ _ _ _ us hl => match us, hl with | [_], _ => rfl
  have b29 := F29.binds (ps := ["octets"]) fun _ _ _ _ _ _ us hl => match us, hl with | [_], _ => rfl
  have M : Nm mg := ⟨PySem.W.mg_none_of X G z1, PySem.W.mg_none_of X G z2, PySem.W.mg_none_of X G z3, PySem.W.mg_none_of X G z4, PySem.W.mg_none_of X G z5, PySem.W.mg_none_of X G z6, PySem.W.mg_none_of X G z7, PySem.W.mg_none_of X G z8, PySem.W.mg_none_of X G z9, PySem.W.mg_none_of X G z10, PySem.W.mg_none_of X G z11, PySem.W.mg_none_of X G z12, PySem.W.mg_none_of X G z13, PySem.W.mg_none_of X G z14, PySem.W.mg_none_of X G z15, PySem.W.mg_none_of X G z16, PySem.W.mg_none_of X G z17, PySem.W.mg_none_of X G z18⟩
  have hall := PySem.W.mg_none_of X G z19
  have go := PySem.W.mg_none_of X G z20
  have FOI := fun_mk (st := sOctetReaderInit) lOI cOI kOI
  have bOI := FOI.binds (ps := ["self", "octets"]) fun _ _ _ _ _ _ us hl => match us, hl with | [_, _], _ => rfl
  have FSI := fun_mk (st := sShInit) lSI cSI kSI
  have bSI := FSI.binds (ps := ["self", "dims", "attrs"]) fun _ _ _ _ _ _ us hl => match us, hl with | [_, _, _], _ => rfl
  have FRI := fun_mk (st := sRootInit) lRI cRI kRI
  have bRI := FRI.binds (ps := ["self", "upcoming", "data", "versions"]) fun _ _ _ _ _ _ us hl => match us, hl with | [_, _, _, _], _ => rfl
  have FOe := fun_mk (st := sOctetReaderIsAtEnd) lOe cOe kOe
  have bOe := FOe.binds (ps := ["self"]) fun _ _ _ _ _ _ us hl => match us, hl with | [_], _ => rfl
  have MOe : Meth K O "is_at_end" fOe := ⟨mOe, hOe, kOe⟩
  have FOn := fun_mk (st := sOctetReaderNextOctets) lOn cOn kOn
  have bOn := FOn.binds (ps := ["self", "count"]) fun _ _ _ _ _ _ us hl => match us, hl with | [_, _], _ => rfl
  have MOn : Meth K O "next_octets" fOn := ⟨mOn, hOn, kOn⟩
  have FOo := fun_mk (st := sOctetReaderNextOctetOf) lOo cOo kOo
  have bOo := FOo.binds (ps := ["self", "allowed"]) fun _ _ _ _ _ _ us hl => match us, hl with | [_, _], _ => rfl
  have MOo : Meth K O "next_octet_of" fOo := ⟨mOo, hOo, kOo⟩
  have FO4 := fun_mk (st := sOctetReaderNextFour) lO4 cO4 kO4
  have bO4 := FO4.binds (ps := ["self"]) fun _ _ _ _ _ _ us hl => match us, hl with | [_], _ => rfl
  have MO4 : Meth K O "next_four" fO4 := ⟨mO4, hO4, kO4⟩
  have FOi := fun_mk (st := sOctetReaderNextFourIn) lOi cOi kOi
  have bOi := FOi.binds (ps := ["self", "least", "greatest"]) fun _ _ _ _ _ _ us hl => match us, hl with | [_, _, _], _ => rfl
  have MOi : Meth K O "next_four_in" fOi := ⟨mOi, hOi, kOi⟩
  have FSE := fun_mk (st := sShEq) lSE cSE kSE
  have bSE := FSE.binds (ps := ["self", "other"]) fun _ _ _ _ _ _ us hl => match us, hl with | [_, _], _ => rfl
  have FRE := fun_mk (st := sRootEq) lRE cRE kRE
  have bRE := FRE.binds (ps := ["self", "other"]) fun _ _ _ _ _ _ us hl => match us, hl with | [_, _], _ => rfl
  have IS : IsiC K S fSE := ⟨mSE, hSE, qS1, qS2, qS3, hn, ht, qS4, qS5, qS6⟩
  have IR : IsiC K R fRE := ⟨mRE, hRE, qR1, qR2, qR3, hn, ht, qR4, qR5, qR6⟩
  have TO : KC K O fOI ORf := ⟨⟨xO1, xO2, xO3, xO4⟩, ⟨xO5, xO6, xO7, xO8⟩, show ∀ f ∈ (["octets", "at"] : List Str), NoAttr K O f from List.forall_mem_cons.mpr ⟨xOn0, List.forall_mem_cons.mpr ⟨xOn1, fun _ h => absurd h List.not_mem_nil⟩⟩⟩
  have gO := PySem.W.mg_of X G xOe
  have TS : KC K S fSI SHf := ⟨⟨xS1, xS2, xS3, xS4⟩, ⟨xS5, xS6, xS7, xS8⟩, show ∀ f ∈ (["dims", "attrs"] : List Str), NoAttr K S f from List.forall_mem_cons.mpr ⟨xSn0, List.forall_mem_cons.mpr ⟨xSn1, fun _ h => absurd h List.not_mem_nil⟩⟩⟩
  have gS := PySem.W.mg_of X G xSe
  have TR : KC K R fRI RHf := ⟨⟨xR1, xR2, xR3, xR4⟩, ⟨xR5, xR6, xR7, xR8⟩, show ∀ f ∈ (["upcoming", "data", "versions"] : List Str), NoAttr K R f from List.forall_mem_cons.mpr ⟨xRn0, List.forall_mem_cons.mpr ⟨xRn1, List.forall_mem_cons.mpr ⟨xRn2, fun _ h => absurd h List.not_mem_nil⟩⟩⟩⟩
  have gR := PySem.W.mg_of X G xRe
  have C1 : Ct mg := ⟨⟨_, PySem.W.mg_of X G g1, ⟨_, rfl⟩⟩⟩
  have C2 : Ct2 K mg := ⟨⟨_, PySem.W.mg_of X G g2, ⟨_, rfl⟩⟩, kK, PySem.W.mg_of X G eKK, fun _ => .inr ⟨_, _, _, lKK, rfl, rfl, (by show 3 ≤ sizeLine; decide), .cons ⟨_, rfl⟩ (.cons ⟨_, rfl⟩ (.cons ⟨_, rfl⟩ .nil))⟩, _, lKK, rfl, rfl⟩
  have C3 : Ct3 K mg := ⟨kF, PySem.W.mg_of X G eFF, fun _ => .inr ⟨_, _, _, lFF, rfl, rfl, (by show 2 ≤ sizeLine; decide), .cons ⟨_, rfl⟩ (.cons ⟨_, rfl⟩ .nil)⟩⟩
  have C4 : Ct4 mg := ⟨⟨_, PySem.W.mg_of X G g4, ⟨_, rfl⟩⟩, ⟨_, PySem.W.mg_of X G g5, ⟨_, rfl⟩⟩, ⟨_, PySem.W.mg_of X G g6, ⟨_, rfl⟩⟩, ⟨_, PySem.W.mg_of X G g7, ⟨_, rfl⟩⟩, ⟨_, PySem.W.mg_of X G g8, ⟨_, rfl⟩⟩, ⟨_, PySem.W.mg_of X G g9, ⟨_, rfl⟩⟩, ⟨_, PySem.W.mg_of X G g10, ⟨_, rfl⟩⟩, ⟨_, PySem.W.mg_of X G g11, ⟨_, rfl⟩⟩⟩
  have C5 : Ct5 mg := ⟨⟨_, PySem.W.mg_of X G g12, ⟨_, rfl⟩⟩, ⟨_, PySem.W.mg_of X G g13, ⟨_, rfl⟩⟩, ⟨_, PySem.W.mg_of X G g14, ⟨_, rfl⟩⟩, ⟨_, PySem.W.mg_of X G g15, ⟨_, rfl⟩⟩⟩
  have C6 : Ct6 mg := ⟨⟨_, PySem.W.mg_of X G g3, ⟨_, rfl⟩⟩⟩
  exact ⟨PySem.W.fnOf "law" "law" (defArgs sLaw) (defBody sLaw) (defScope sLaw) .none kV30 dc30 pm30 an30 cd30 ct30, fun s v => .of_eq rfl, fun base _ _ => ok_law (CR := R) (C := S) F30 M (ok_lr F25 M (ok_draw F22 M) k22 b22 (PySem.W.mg_of X G a22) (ok_lsh F23 M TS (ok_shI FSI TS) bSI gS (ok_draw F22 M) k22 b22 (PySem.W.mg_of X G a22)) k23 b23 (PySem.W.mg_of X G a23) (ok_lc' F24 M TS) k24 b24 (PySem.W.mg_of X G a24) TR (ok_ri (C := S) FRI TR) bRI gR) k25 b25 (PySem.W.mg_of X G a25) (ok_lo F28 M TR TS ⟨_, _, _, _, (ok_ln F26), b26, k26, (PySem.W.mg_of X G a26), ok_lnm F27 M go, b27, k27, (PySem.W.mg_of X G a27)⟩) k28 b28 (PySem.W.mg_of X G a28) (ok_sum F9 C1) k9 b9 (PySem.W.mg_of X G a9) (ok_lsum F29 M) k29 b29 (PySem.W.mg_of X G a29) (ok_ln F26) k26 b26 (PySem.W.mg_of X G a26) (ok_er F12 M TR C3 ⟨_, _, _, _, _, _, _, _, _, _, (ok_w4 F10), b10, k10, (PySem.W.mg_of X G a10), (ok_wn F11 M go F1 b1 (PySem.W.mg_of X G a1)), b11, k11, (PySem.W.mg_of X G a11), (ok_ws F13 M go TS C2 F10 b10 (PySem.W.mg_of X G a10) F11 b11 (PySem.W.mg_of X G a11) F1 b1 (PySem.W.mg_of X G a1)), b13, k13, (PySem.W.mg_of X G a13), (ok_wc F14 M F10 b10 (PySem.W.mg_of X G a10)), b14, k14, (PySem.W.mg_of X G a14), (ok_sum F9 C1), b9, k9, (PySem.W.mg_of X G a9)⟩) k12 b12 (PySem.W.mg_of X G a12) (ok_dr (C := S) F15 M C3 C6 ⟨_, _, _, _, _, _, _, _, _, TO, (ok_no FOn M TO), bOn, MOn, (ok_of FOo TO (ok_no FOn M TO) bOn MOn), bOo, MOo, (ok_n4 FO4 TO (ok_no FOn M TO) bOn MOn), bO4, MO4, (ok_n4i FOi TO (ok_n4 FO4 TO (ok_no FOn M TO) bOn MOn) bO4 MO4), bOi, MOi⟩ TO (ok_orI FOI M TO) bOI gO (ok_end FOe M TO) bOe MOe (ok_ras F16 M ⟨_, _, _, _, _, _, _, _, _, TO, (ok_no FOn M TO), bOn, MOn, (ok_of FOo TO (ok_no FOn M TO) bOn MOn), bOo, MOo, (ok_n4 FO4 TO (ok_no FOn M TO) bOn MOn), bO4, MO4, (ok_n4i FOi TO (ok_n4 FO4 TO (ok_no FOn M TO) bOn MOn) bO4 MO4), bOi, MOi⟩ (ok_rn F17 ⟨_, _, _, _, _, _, _, _, _, TO, (ok_no FOn M TO), bOn, MOn, (ok_of FOo TO (ok_no FOn M TO) bOn MOn), bOo, MOo, (ok_n4 FO4 TO (ok_no FOn M TO) bOn MOn), bO4, MO4, (ok_n4i FOi TO (ok_n4 FO4 TO (ok_no FOn M TO) bOn MOn) bO4 MO4), bOi, MOi⟩ (ok_dec F2 M C4 F3 b3 (PySem.W.mg_of X G a3) F4 b4 (PySem.W.mg_of X G a4)) k2 b2 (PySem.W.mg_of X G a2) (ok_simple F8 M C4) k8 b8 (PySem.W.mg_of X G a8)) k17 b17 (PySem.W.mg_of X G a17) (ok_rs F18 M ⟨_, _, _, _, _, _, _, _, _, TO, (ok_no FOn M TO), bOn, MOn, (ok_of FOo TO (ok_no FOn M TO) bOn MOn), bOo, MOo, (ok_n4 FO4 TO (ok_no FOn M TO) bOn MOn), bO4, MO4, (ok_n4i FOi TO (ok_n4 FO4 TO (ok_no FOn M TO) bOn MOn) bO4 MO4), bOi, MOi⟩ TS (ok_shI FSI TS) bSI gS (ok_rdm F19 ⟨_, _, _, _, _, _, _, _, _, TO, (ok_no FOn M TO), bOn, MOn, (ok_of FOo TO (ok_no FOn M TO) bOn MOn), bOo, MOo, (ok_n4 FO4 TO (ok_no FOn M TO) bOn MOn), bO4, MO4, (ok_n4i FOi TO (ok_n4 FO4 TO (ok_no FOn M TO) bOn MOn) bO4 MO4), bOi, MOi⟩ C2 (ok_rn F17 ⟨_, _, _, _, _, _, _, _, _, TO, (ok_no FOn M TO), bOn, MOn, (ok_of FOo TO (ok_no FOn M TO) bOn MOn), bOo, MOo, (ok_n4 FO4 TO (ok_no FOn M TO) bOn MOn), bO4, MO4, (ok_n4i FOi TO (ok_n4 FO4 TO (ok_no FOn M TO) bOn MOn) bO4 MO4), bOi, MOi⟩ (ok_dec F2 M C4 F3 b3 (PySem.W.mg_of X G a3) F4 b4 (PySem.W.mg_of X G a4)) k2 b2 (PySem.W.mg_of X G a2) (ok_simple F8 M C4) k8 b8 (PySem.W.mg_of X G a8)) k17 b17 (PySem.W.mg_of X G a17)) k19 b19 (PySem.W.mg_of X G a19) (ok_ra F20 ⟨_, _, _, _, _, _, _, _, _, TO, (ok_no FOn M TO), bOn, MOn, (ok_of FOo TO (ok_no FOn M TO) bOn MOn), bOo, MOo, (ok_n4 FO4 TO (ok_no FOn M TO) bOn MOn), bO4, MO4, (ok_n4i FOi TO (ok_n4 FO4 TO (ok_no FOn M TO) bOn MOn) bO4 MO4), bOi, MOi⟩ C2 (ok_rn F17 ⟨_, _, _, _, _, _, _, _, _, TO, (ok_no FOn M TO), bOn, MOn, (ok_of FOo TO (ok_no FOn M TO) bOn MOn), bOo, MOo, (ok_n4 FO4 TO (ok_no FOn M TO) bOn MOn), bO4, MO4, (ok_n4i FOi TO (ok_n4 FO4 TO (ok_no FOn M TO) bOn MOn) bO4 MO4), bOi, MOi⟩ (ok_dec F2 M C4 F3 b3 (PySem.W.mg_of X G a3) F4 b4 (PySem.W.mg_of X G a4)) k2 b2 (PySem.W.mg_of X G a2) (ok_simple F8 M C4) k8 b8 (PySem.W.mg_of X G a8)) k17 b17 (PySem.W.mg_of X G a17)) k20 b20 (PySem.W.mg_of X G a20) (ok_check F5 M C5 TS (ok_isDim F6 C5 (ok_simple F8 M C4) k8 b8 (PySem.W.mg_of X G a8)) k6 b6 (PySem.W.mg_of X G a6) (ok_isAttr F7 C2 (ok_simple F8 M C4) k8 b8 (PySem.W.mg_of X G a8)) k7 b7 (PySem.W.mg_of X G a7)) k5 b5 (PySem.W.mg_of X G a5)) k18 b18 (PySem.W.mg_of X G a18) (ok_rc F21 M hall ⟨_, _, _, _, _, _, _, _, _, TO, (ok_no FOn M TO), bOn, MOn, (ok_of FOo TO (ok_no FOn M TO) bOn MOn), bOo, MOo, (ok_n4 FO4 TO (ok_no FOn M TO) bOn MOn), bO4, MO4, (ok_n4i FOi TO (ok_n4 FO4 TO (ok_no FOn M TO) bOn MOn) bO4 MO4), bOi, MOi⟩ TS) k21 b21 (PySem.W.mg_of X G a21)) k16 b16 (PySem.W.mg_of X G a16) (ok_sum F9 C1) k9 b9 (PySem.W.mg_of X G a9) TR (ok_ri (C := S) FRI TR) bRI gR) k15 b15 (PySem.W.mg_of X G a15) TR (ok_ri (C := S) FRI TR) bRI gR IR (ok_req FRE M TR IR gR IS (ok_shEq FSE M TS IS gS) bSE) bRE IS (ok_shEq FSE M TS IS gS) bSE⟩
end K2
open PySem PySem.W PyProof.Rows
set_option maxRecDepth 100000 in
set_option maxHeartbeats 0 in
theorem PySem.Challenge.cw_manysides_k58_roots_as_octets_holds : PySem.Challenge.rw_manysides_k58_roots_as_octets.Holds := by
  w_on; o_law; k_head; (case hw => w_witness2)
  k_fill
  refine L2.walk_of (l := PySem.Challenge.rw_manysides_k58_roots_as_octets) (n := 63) (k := 9) (x := "script") (CX := fun _ => L2.CX0) (sp := fun w => K2.spLaw _) rfl (by decide) rfl ⟨rfl, by decide, by decide⟩ (fun w h Y => PySem.W.kIn_of Y) ?F (fun _ _ a ns hl _ hS => ⟨a, ns, rfl, hS, hl, fun _ => rfl⟩) (fun _ _ _ _ _ h => h)
  case F =>
    intro w mg fa h KX G hmg
    refine' K2.all_mk KX G hmg ?a1 ?l1 ?c1 ?k1 ?a2 ?l2 ?c2 ?k2 ?a3 ?l3 ?c3 ?k3 ?a4 ?l4 ?c4 ?k4 ?a5 ?l5 ?c5 ?k5 ?a6 ?l6 ?c6 ?k6 ?a7 ?l7 ?c7 ?k7 ?a8 ?l8 ?c8 ?k8 ?a9 ?l9 ?c9 ?k9 ?a10 ?l10 ?c10 ?k10 ?a11 ?l11 ?c11 ?k11 ?a12 ?l12 ?c12 ?k12 ?a13 ?l13 ?c13 ?k13 ?a14 ?l14 ?c14 ?k14 ?a15 ?l15 ?c15 ?k15 ?a16 ?l16 ?c16 ?k16 ?a17 ?l17 ?c17 ?k17 ?a18 ?l18 ?c18 ?k18 ?a19 ?l19 ?c19 ?k19 ?a20 ?l20 ?c20 ?k20 ?a21 ?l21 ?c21 ?k21 ?a22 ?l22 ?c22 ?k22 ?a23 ?l23 ?c23 ?k23 ?a24 ?l24 ?c24 ?k24 ?a25 ?l25 ?c25 ?k25 ?a26 ?l26 ?c26 ?k26 ?a27 ?l27 ?c27 ?k27 ?a28 ?l28 ?c28 ?k28 ?a29 ?l29 ?c29 ?k29 ?a30 ?l30 ?c30 ?k30 ?z1 ?z2 ?z3 ?z4 ?z5 ?z6 ?z7 ?z8 ?z9 ?z10 ?z11 ?z12 ?z13 ?z14 ?z15 ?z16 ?z17 ?z18 ?z19 ?z20 ?g1 ?g2 ?g3 ?g4 ?g5 ?g6 ?g7 ?g8 ?g9 ?g10 ?g11 ?g12 ?g13 ?g14 ?g15 ?eKK ?lKK ?eFF ?lFF ?xOe ?xO1 ?xO2 ?xO3 ?xO4 ?xO5 ?xO6 ?xO7 ?xO8 ?xOn0 ?xOn1 ?lOI ?cOI ?kOI ?xSe ?xS1 ?xS2 ?xS3 ?xS4 ?xS5 ?xS6 ?xS7 ?xS8 ?xSn0 ?xSn1 ?lSI ?cSI ?kSI ?xRe ?xR1 ?xR2 ?xR3 ?xR4 ?xR5 ?xR6 ?xR7 ?xR8 ?xRn0 ?xRn1 ?xRn2 ?lRI ?cRI ?kRI ?hn ?ht ?mOe ?hOe ?lOe ?cOe ?kOe ?mOn ?hOn ?lOn ?cOn ?kOn ?mOo ?hOo ?lOo ?cOo ?kOo ?mO4 ?hO4 ?lO4 ?cO4 ?kO4 ?mOi ?hOi ?lOi ?cOi ?kOi ?mSE ?hSE ?lSE ?cSE ?kSE ?mRE ?hRE ?lRE ?cRE ?kRE ?qS1 ?qS2 ?qS3 ?qS4 ?qS5 ?qS6 ?qR1 ?qR2 ?qR3 ?qR4 ?qR5 ?qR6
    (case a1 => k_is)
    (case l1 => k_is)
    (case c1 => k_is)
    (case k1 => k_is)
    (case a2 => k_is)
    (case l2 => k_is)
    (case c2 => k_is)
    (case k2 => k_is)
    (case a3 => k_is)
    (case l3 => k_is)
    (case c3 => k_is)
    (case k3 => k_is)
    (case a4 => k_is)
    (case l4 => k_is)
    (case c4 => k_is)
    (case k4 => k_is)
    (case a5 => k_is)
    (case l5 => k_is)
    (case c5 => k_is)
    (case k5 => k_is)
    (case a6 => k_is)
    (case l6 => k_is)
    (case c6 => k_is)
    (case k6 => k_is)
    (case a7 => k_is)
    (case l7 => k_is)
    (case c7 => k_is)
    (case k7 => k_is)
    (case a8 => k_is)
    (case l8 => k_is)
    (case c8 => k_is)
    (case k8 => k_is)
    (case a9 => k_is)
    (case l9 => k_is)
    (case c9 => k_is)
    (case k9 => k_is)
    (case a10 => k_is)
    (case l10 => k_is)
    (case c10 => k_is)
    (case k10 => k_is)
    (case a11 => k_is)
    (case l11 => k_is)
    (case c11 => k_is)
    (case k11 => k_is)
    (case a12 => k_is)
    (case l12 => k_is)
    (case c12 => k_is)
    (case k12 => k_is)
    (case a13 => k_is)
    (case l13 => k_is)
    (case c13 => k_is)
    (case k13 => k_is)
    (case a14 => k_is)
    (case l14 => k_is)
    (case c14 => k_is)
    (case k14 => k_is)
    (case a15 => k_is)
    (case l15 => k_is)
    (case c15 => k_is)
    (case k15 => k_is)
    (case a16 => k_is)
    (case l16 => k_is)
    (case c16 => k_is)
    (case k16 => k_is)
    (case a17 => k_is)
    (case l17 => k_is)
    (case c17 => k_is)
    (case k17 => k_is)
    (case a18 => k_is)
    (case l18 => k_is)
    (case c18 => k_is)
    (case k18 => k_is)
    (case a19 => k_is)
    (case l19 => k_is)
    (case c19 => k_is)
    (case k19 => k_is)
    (case a20 => k_is)
    (case l20 => k_is)
    (case c20 => k_is)
    (case k20 => k_is)
    (case a21 => k_is)
    (case l21 => k_is)
    (case c21 => k_is)
    (case k21 => k_is)
    (case a22 => k_is)
    (case l22 => k_is)
    (case c22 => k_is)
    (case k22 => k_is)
    (case a23 => k_is)
    (case l23 => k_is)
    (case c23 => k_is)
    (case k23 => k_is)
    (case a24 => k_is)
    (case l24 => k_is)
    (case c24 => k_is)
    (case k24 => k_is)
    (case a25 => k_is)
    (case l25 => k_is)
    (case c25 => k_is)
    (case k25 => k_is)
    (case a26 => k_is)
    (case l26 => k_is)
    (case c26 => k_is)
    (case k26 => k_is)
    (case a27 => k_is)
    (case l27 => k_is)
    (case c27 => k_is)
    (case k27 => k_is)
    (case a28 => k_is)
    (case l28 => k_is)
    (case c28 => k_is)
    (case k28 => k_is)
    (case a29 => k_is)
    (case l29 => k_is)
    (case c29 => k_is)
    (case k29 => k_is)
    (case a30 => k_is)
    (case l30 => k_is)
    (case c30 => k_is)
    (case k30 => k_is)
    (case z1 => k_is)
    (case z2 => k_is)
    (case z3 => k_is)
    (case z4 => k_is)
    (case z5 => k_is)
    (case z6 => k_is)
    (case z7 => k_is)
    (case z8 => k_is)
    (case z9 => k_is)
    (case z10 => k_is)
    (case z11 => k_is)
    (case z12 => k_is)
    (case z13 => k_is)
    (case z14 => k_is)
    (case z15 => k_is)
    (case z16 => k_is)
    (case z17 => k_is)
    (case z18 => k_is)
    (case z19 => k_is)
    (case z20 => k_is)
    (case g1 => k_is)
    (case g2 => k_is)
    (case g3 => k_is)
    (case g4 => k_is)
    (case g5 => k_is)
    (case g6 => k_is)
    (case g7 => k_is)
    (case g8 => k_is)
    (case g9 => k_is)
    (case g10 => k_is)
    (case g11 => k_is)
    (case g12 => k_is)
    (case g13 => k_is)
    (case g14 => k_is)
    (case g15 => k_is)
    (case eKK => first | k_is | kit_is | rfl)
    (case lKK => first | k_is | kit_is | rfl)
    (case eFF => first | k_is | kit_is | rfl)
    (case lFF => first | k_is | kit_is | rfl)
    (case xOe => first | k_is | kit_is | rfl)
    (case xO1 => first | k_is | kit_is | rfl)
    (case xO2 => first | k_is | kit_is | rfl)
    (case xO3 => first | k_is | kit_is | rfl)
    (case xO4 => first | k_is | kit_is | rfl)
    (case xO5 => first | k_is | kit_is | rfl)
    (case xO6 => first | k_is | kit_is | rfl)
    (case xO7 => first | k_is | kit_is | rfl)
    (case xO8 => first | k_is | kit_is | rfl)
    (case xOn0 => first | k_is | kit_is | rfl)
    (case xOn1 => first | k_is | kit_is | rfl)
    (case lOI => first | k_is | kit_is | rfl)
    (case cOI => first | k_is | kit_is | rfl)
    (case kOI => first | k_is | kit_is | rfl)
    (case xSe => first | k_is | kit_is | rfl)
    (case xS1 => first | k_is | kit_is | rfl)
    (case xS2 => first | k_is | kit_is | rfl)
    (case xS3 => first | k_is | kit_is | rfl)
    (case xS4 => first | k_is | kit_is | rfl)
    (case xS5 => first | k_is | kit_is | rfl)
    (case xS6 => first | k_is | kit_is | rfl)
    (case xS7 => first | k_is | kit_is | rfl)
    (case xS8 => first | k_is | kit_is | rfl)
    (case xSn0 => first | k_is | kit_is | rfl)
    (case xSn1 => first | k_is | kit_is | rfl)
    (case lSI => first | k_is | kit_is | rfl)
    (case cSI => first | k_is | kit_is | rfl)
    (case kSI => first | k_is | kit_is | rfl)
    (case xRe => first | k_is | kit_is | rfl)
    (case xR1 => first | k_is | kit_is | rfl)
    (case xR2 => first | k_is | kit_is | rfl)
    (case xR3 => first | k_is | kit_is | rfl)
    (case xR4 => first | k_is | kit_is | rfl)
    (case xR5 => first | k_is | kit_is | rfl)
    (case xR6 => first | k_is | kit_is | rfl)
    (case xR7 => first | k_is | kit_is | rfl)
    (case xR8 => first | k_is | kit_is | rfl)
    (case xRn0 => first | k_is | kit_is | rfl)
    (case xRn1 => first | k_is | kit_is | rfl)
    (case xRn2 => first | k_is | kit_is | rfl)
    (case lRI => first | k_is | kit_is | rfl)
    (case cRI => first | k_is | kit_is | rfl)
    (case kRI => first | k_is | kit_is | rfl)
    (case hn => first | k_is | kit_is | rfl)
    (case ht => first | k_is | kit_is | rfl)
    (case mOe => first | k_is | kit_is | rfl)
    (case hOe => first | k_is | kit_is | rfl)
    (case lOe => first | k_is | kit_is | rfl)
    (case cOe => first | k_is | kit_is | rfl)
    (case kOe => first | k_is | kit_is | rfl)
    (case mOn => first | k_is | kit_is | rfl)
    (case hOn => first | k_is | kit_is | rfl)
    (case lOn => first | k_is | kit_is | rfl)
    (case cOn => first | k_is | kit_is | rfl)
    (case kOn => first | k_is | kit_is | rfl)
    (case mOo => first | k_is | kit_is | rfl)
    (case hOo => first | k_is | kit_is | rfl)
    (case lOo => first | k_is | kit_is | rfl)
    (case cOo => first | k_is | kit_is | rfl)
    (case kOo => first | k_is | kit_is | rfl)
    (case mO4 => first | k_is | kit_is | rfl)
    (case hO4 => first | k_is | kit_is | rfl)
    (case lO4 => first | k_is | kit_is | rfl)
    (case cO4 => first | k_is | kit_is | rfl)
    (case kO4 => first | k_is | kit_is | rfl)
    (case mOi => first | k_is | kit_is | rfl)
    (case hOi => first | k_is | kit_is | rfl)
    (case lOi => first | k_is | kit_is | rfl)
    (case cOi => first | k_is | kit_is | rfl)
    (case kOi => first | k_is | kit_is | rfl)
    (case mSE => first | k_is | kit_is | rfl)
    (case hSE => first | k_is | kit_is | rfl)
    (case lSE => first | k_is | kit_is | rfl)
    (case cSE => first | k_is | kit_is | rfl)
    (case kSE => first | k_is | kit_is | rfl)
    (case mRE => first | k_is | kit_is | rfl)
    (case hRE => first | k_is | kit_is | rfl)
    (case lRE => first | k_is | kit_is | rfl)
    (case cRE => first | k_is | kit_is | rfl)
    (case kRE => first | k_is | kit_is | rfl)
    (case qS1 => first | k_is | kit_is | rfl)
    (case qS2 => first | k_is | kit_is | rfl)
    (case qS3 => first | k_is | kit_is | rfl)
    (case qS4 => first | k_is | kit_is | rfl)
    (case qS5 => first | k_is | kit_is | rfl)
    (case qS6 => first | k_is | kit_is | rfl)
    (case qR1 => first | k_is | kit_is | rfl)
    (case qR2 => first | k_is | kit_is | rfl)
    (case qR3 => first | k_is | kit_is | rfl)
    (case qR4 => first | k_is | kit_is | rfl)
    (case qR5 => first | k_is | kit_is | rfl)
    (case qR6 => first | k_is | kit_is | rfl)
