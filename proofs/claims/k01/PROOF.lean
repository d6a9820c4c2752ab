import PyProof.Rows.All
import Wide.All
import OpenK.AllK
import Wide.FinOn
import KE.KExcIs
import KE.KTypeName
import KE.KDictList
import HandS.ForMost
import HandS.StrMore
import HandS.Replace
import HandS.IsInst
import HandS.Style
import HandS.Evl
import HandS.Exc
import HandS.WordsExc
import HandS.ExcInit
import HandS.ExcField
import HandS.ExcIs
import HandS.Conv
import HandS.Sort
import HandS.Walk
import PySem.Challenge.RW_manysides_k01_texts
set_option Elab.async false
set_option linter.all false
set_option maxRecDepth 100000
set_option maxHeartbeats 4000000
namespace K2
open PySem L2
def top (i : Nat) : Stmt := PySem.Challenge.pw_manysides_k01_texts.main.body.getD i (.Pass ⟨0, 0, 0, 0⟩)
abbrev sDraw : Stmt := top 16
/-! heaps -/
theorem same_new {H : Hp} {p : Addr} {o : HO} (h : H p = none) : Same H (upd H p o) := fun b x e => by
  rw [upd_ne (ne_of_none e h)]
  exact e
theorem same_put {H H1 : Hp} {p : Addr} {o : HO} (s : Same H H1) (h : H p = none) : Same H (upd H1 p o) := fun b x e => by
  rw [upd_ne (ne_of_none e h)]
  exact s b x e
section
variable {P : Program} {w : World} {K : PySem.W.Frag} {mg : Str → Option Value} {base : Heap}
def spDraw : Sp := fun vs H Q _ => ∃ (c m b : Int), vs = [.int c, .int m, .int b] ∧ 0 ≤ m ∧ m ≤ 1000 ∧ 0 < b ∧ b < 1073741824 ∧
  ∀ H' p (ns : List Int), Same H H' → H p = none → ns.length = m.toNat → H' p = some (.lst (ns.map V.int)) → Q (.ref p) H'
theorem scDraw : FnScope ["cell", "many", "bound", "numbers", "k", "seed", "mixed"] ["cell", "many", "bound"] (defScope sDraw) := ⟨rfl, rfl, rfl, by decide +kernel, rfl, by decide +kernel, by decide +kernel⟩
theorem ok_draw {f : Addr} {fd : FuncData} (F : Fun K "_law_draw" "_law_draw" sDraw f fd) (mr : mg "range" = none) (mi : mg "int" = none) : FnOk P w K mg base CX0 1 f fd ["cell", "many", "bound"] spDraw := by
  refine F.ok scDraw (fun vs H Q E h => ?_) (fun cdv A outer s H vs Q E hr h => ?_)
  · obtain ⟨c, m, b, rfl, _⟩ := h
    rfl
  · obtain ⟨c, m, b, rfl, hm0, hm1, hb0, hb1, q⟩ := h
    refine ⟨_, pss_cons (ps_set (i := 3) scDraw.nd rfl (.inl rfl) (pe_lst pa_nil))
      (pss_cons (ps_if (pt_cmpR op_ge (pv 0) (pe_op op_pow pe_int pe_int) (nomark _))
        (pss_cons (ps_for PassesOwn.never rfl (pi_range1 (by rfl) mr (pa_cons (pv 1) pa_nil)) (pg_name (i := 4) scDraw.nd rfl (.inl rfl))
          (pss_cons (ps_expr (pe_bm PySem.F.plainAttrs_list PySem.F.slot_list_append PySem.F.type_list_append mt_append (pv 3) (pa_cons (pe_op op_mod (pe_callTy call_int1 (by rfl) mi (by decide +kernel) (pa_cons (pv 0) pa_nil)) (pv 2)) pa_nil)))
          (pss_one (ps_set (i := 0) scDraw.nd rfl (.inl rfl) (pe_op op_fdiv (pv 0) (pv 2))))))
        (pss_one (ps_ret (pv 3)))) pss_nil)
      (pss_cons (ps_set (i := 5) scDraw.nd rfl (.inl rfl) (pe_op op_mod (pe_callTy call_int1 (by rfl) mi (by decide +kernel) (pa_cons (pv 0) pa_nil)) pe_int))
      (pss_cons (ps_for PassesOwn.never rfl (pi_range1 (by rfl) mr (pa_cons (pv 1) pa_nil)) (pg_name (i := 4) scDraw.nd rfl (.inl rfl))
          (pss_cons (ps_set (i := 5) scDraw.nd rfl (.inl rfl) (pe_op op_mod (pe_callTy call_int1 (by rfl) mi (by decide +kernel) (pa_cons (pe_op op_add (pe_op op_add (pe_op op_mul (pv 5) pe_int) pe_int) (pv 4)) pa_nil)) pe_int))
          (pss_cons (ps_set (i := 6) scDraw.nd rfl (.inl rfl) (pe_op op_mod (pe_callTy call_int1 (by rfl) mi (by decide +kernel) (pa_cons (pe_op op_add (pe_op op_mul (pv 5) pe_int) (pe_op op_mul pe_int (pv 4))) pa_nil)) pe_int))
          (pss_one (ps_expr (pe_bm PySem.F.plainAttrs_list PySem.F.slot_list_append PySem.F.type_list_append mt_append (pv 3) (pa_cons (pe_op op_mod (pe_callTy call_int1 (by rfl) mi (by decide +kernel) (pa_cons (pe_op op_fdiv (pv 6) pe_int) pa_nil)) (pv 2)) pa_nil)))))))
      (pss_one (ps_ret (pv 3)))))), ?_⟩
    refine ⟨Nat.zero_le _, fun o no => ?_⟩
    have s1 : Same H (upd H o (.lst [])) := same_new no
    refine ⟨_, rfl, 10, 18, rfl, rfl, ⟨by decide, by decide, by decide⟩, c, _, rfl, rfl, _, rfl, ite2 (fun e => ?_) (fun e => ?_)⟩
    · -- the great cells
      refine ⟨_, rfl, m, rfl, by omega, by omega, for_range (lo := 0) (n := m.toNat) (fun i σ H3 => ∃ (c' : Int) (y4 : Option V), σ = [some (.int c'), some (.int m), some (.int b), some (.ref o), y4, none, none] ∧ Same H H3 ∧ ∃ ns : List Int, ns.length = i ∧ H3 o = some (.lst (ns.map V.int))) ?_ ?_ ?_⟩
      · exact ⟨c, none, rfl, s1, [], rfl, upd_same⟩
      · rintro i σ H3 hi ⟨c', y4, rfl, sm, ns, hn, ho⟩
        refine ⟨_, rfl, .inl ⟨rfl, _, .inl (.inl ho)⟩, _, rfl, .inl ⟨c', rfl, _, rfl, c', b, rfl, rfl, hb0, o, _, _, rfl, rfl, ho, ?_, ?_⟩⟩
        · rw [List.length_map]
          exact small1000 (by omega)
        · refine ⟨_, rfl, _, rfl, c', b, rfl, rfl, ⟨hb0, hb1⟩, c' / b, _, rfl, same_put sm no, ns ++ [c' % b], ?_, ?_⟩
          · rw [List.length_append, hn]
            rfl
          · rw [upd_same, List.map_append]
            rfl
      · rintro σ H3 ⟨c', y4, rfl, sm, ns, hn, ho⟩
        exact ⟨_, rfl, q H3 o ns sm no hn ho⟩
    · -- the others
      refine ⟨_, rfl, .inl ⟨c, rfl, c, 2147483647, rfl, rfl, (by show (0 : Int) < 2147483647; decide), ?_⟩⟩
      refine ⟨_, rfl, m, rfl, by omega, by omega, for_range (lo := 0) (n := m.toNat) (fun i σ H3 => ∃ (sd : Int) (y4 y6 : Option V), σ = [some (.int c), some (.int m), some (.int b), some (.ref o), y4, some (.int sd), y6] ∧ 0 ≤ sd ∧ sd < 2147483647 ∧ Same H H3 ∧ ∃ ns : List Int, ns.length = i ∧ H3 o = some (.lst (ns.map V.int))) ?_ ?_ ?_⟩
      · exact ⟨_, none, none, rfl, Int.emod_nonneg _ (by decide), Int.emod_lt_of_pos _ (by decide), s1, [], rfl, upd_same⟩
      · rintro i σ H3 hi ⟨sd, y4, y6, rfl, h0, h1, sm, ns, hn, ho⟩
        refine ⟨_, rfl, sd, 48271, rfl, rfl, .inl ⟨by omega, by omega⟩, _, _, rfl, rfl, _, rfl, _, _, rfl, rfl, .inl ⟨_, rfl, _, 2147483647, rfl, rfl, (by show (0 : Int) < 2147483647; decide), ?_⟩⟩
        have g0 := Int.emod_nonneg (sd * 48271 + 12345 + (0 + (i : Int))) (by decide : (2147483647 : Int) ≠ 0)
        have g1 := Int.emod_lt_of_pos (sd * 48271 + 12345 + (0 + (i : Int))) (by decide : (0 : Int) < 2147483647)
        refine ⟨_, rfl, (sd * 48271 + 12345 + (0 + (i : Int))) % 2147483647, 69621, rfl, rfl, .inl ⟨by omega, by omega⟩, _, rfl, 977, _, rfl, rfl, .inl ⟨by decide, by decide⟩, _, _, rfl, rfl, .inl ⟨_, rfl, _, 2147483629, rfl, rfl, (by show (0 : Int) < 2147483629; decide), ?_⟩⟩
        refine ⟨_, rfl, .inl ⟨rfl, _, .inl (.inl ho)⟩, _, rfl, _, 3, rfl, rfl, ⟨by decide, by decide⟩, .inl ⟨_, rfl, _, rfl, _, b, rfl, rfl, hb0, o, _, _, rfl, rfl, ho, ?_, ?_⟩⟩
        · rw [List.length_map]
          exact small1000 (by omega)
        · refine ⟨_, _, _, rfl, g0, g1, same_put sm no, ns ++ [(((sd * 48271 + 12345 + (0 + (i : Int))) % 2147483647) * 69621 + 977 * (0 + (i : Int))) % 2147483629 / 3 % b], ?_, ?_⟩
          · rw [List.length_append, hn]
            rfl
          · rw [upd_same, List.map_append]
            rfl
      · rintro σ H3 ⟨sd, y4, y6, rfl, h0, h1, sm, ns, hn, ho⟩
        exact ⟨_, rfl, q H3 o ns sm no hn ho⟩
end
end K2

namespace K2
open PySem L2
/-! texts of the 95 characters -/
def okc (c : Nat) : Bool := c == 10 || (Nat.ble 32 c && Nat.ble c 126 && !(c == 37))
def Txt95 (z : Str) : Prop := ∀ c ∈ z.cps.toList, okc c = true
abbrev CHS : Str := " !\"#$\n&'()*+,-./0123456789:;<=>?@ABCDEFGHIJKLMNOPQRSTUVWXYZ[\\]^_`abcdefghijklmnopqrstuvwxyz{|}~"
abbrev LATER : Str := "&'()*+,-./0123456789:;<=>?@ABCDEFGHIJKLMNOPQRSTUVWXYZ[\\]^_`abcdefghijklmnopqrstuvwxyz{|}~"
abbrev FIVE : Str := " !\"#$"
theorem okc_lt {c : Nat} (h : okc c = true) : c < 127 := by
  unfold okc at h
  rw [Bool.or_eq_true, Bool.and_eq_true, Bool.and_eq_true, beq_iff_eq, Nat.ble_eq, Nat.ble_eq] at h
  omega
theorem ch_tab : ∀ c, c < 127 → okc c = true → CHS.cps.contains c = true := by decide +kernel
theorem ch_in {c : Nat} (h : okc c = true) : CHS.cps.contains c = true := ch_tab c (okc_lt h) h
theorem takeWhile_all {p : Nat → Bool} : ∀ {l : List Nat}, (∀ c ∈ l, p c = true) → l.takeWhile p = l
  | [], _ => rfl
  | a :: r, h => by
    rw [List.takeWhile_cons, if_pos (h a (List.mem_cons_self ..)), takeWhile_all fun c hc => h c (List.mem_cons_of_mem _ hc)]
theorem strip_ok {z : Str} (h : Txt95 z) : Txt.stripChars z CHS = ("" : Str) := by
  unfold Txt.stripChars
  rw [PyProof.Rows.stripBy_eq]
  have e : stripLo CHS.cps.contains true z = z.length := by
    simp only [stripLo, if_true]
    rw [takeWhile_all fun c hc => ch_in (h c hc)]
    simp [Str.length]
  have l := PyProof.Rows.hi_facts CHS.cps.contains z z.length (Nat.le_refl _)
  have e2 : stripHi CHS.cps.contains true z z.length = z.length := by omega
  rw [e, e2]
  unfold Builtin.Str.strSub
  have e3 : z.cps.extract z.length z.length = #[] := by
    apply Array.eq_empty_of_size_eq_zero
    rw [Array.size_extract]
    have : z.length = z.cps.size := rfl
    omega
  rw [e3]
  decide +kernel
theorem join_mem : ∀ {ys : List Str} {c : Nat}, c ∈ (Str.join ("" : Str) ys).cps.toList → ∃ y ∈ ys, c ∈ y.cps.toList
  | [], c, h => by
    have : c ∈ (Str.empty).cps.toList := h
    simp [Str.empty] at this
  | [x], c, h => ⟨x, List.mem_cons_self .., h⟩
  | x :: y :: r, c, h => by
    have h : c ∈ ((x.cps ++ ("" : Str).cps) ++ (Str.join ("" : Str) (y :: r)).cps).toList := h
    have e0 : ("" : Str).cps = #[] := by decide +kernel
    rw [e0, Array.append_empty, Array.toList_append, List.mem_append] at h
    rcases h with h | h
    · exact ⟨x, List.mem_cons_self .., h⟩
    · obtain ⟨z, hz, hc⟩ := join_mem h
      exact ⟨z, List.mem_cons_of_mem _ hz, hc⟩
theorem join_ok {ys : List Str} (h : ∀ y ∈ ys, Txt95 y) : Txt95 (Txt.join ("" : Str) ys) := fun c hc => by
  have hc : c ∈ (Builtin.Str.glued ("" : Str) ys).cps.toList := hc
  rw [StrLaws.glued_eq_join] at hc
  obtain ⟨y, hy, k⟩ := join_mem hc
  exact h y hy c k
theorem join_len (ys : List Str) : (Txt.join ("" : Str) ys).length ≤ (ys.map (·.length)).sum := by
  have h := StrLaws.join_length_le ("" : Str) ys
  rw [← StrLaws.glued_eq_join] at h
  have e0 : ("" : Str).length = 0 := by decide +kernel
  rw [e0, Nat.mul_zero] at h
  exact h
theorem reps_mem : ∀ {n : Nat} {a b : Array Nat} {c : Nat}, c ∈ ((List.replicate n a).foldl (· ++ ·) b).toList → c ∈ b.toList ∨ c ∈ a.toList
  | 0, a, b, c, h => .inl h
  | n + 1, a, b, c, h => by
    rw [List.replicate_succ, List.foldl_cons] at h
    rcases reps_mem h with h | h
    · rw [Array.toList_append, List.mem_append] at h
      exact h
    · exact .inr h
theorem reps_size : ∀ (n : Nat) (a b : Array Nat), ((List.replicate n a).foldl (· ++ ·) b).size = b.size + n * a.size
  | 0, a, b => by simp
  | n + 1, a, b => by
    rw [List.replicate_succ, List.foldl_cons, reps_size n a (b ++ a), Array.size_append, Nat.succ_mul]
    omega
theorem mul_ok {z : Str} {n : Int} (h : Txt95 z) : Txt95 (Txt.mul z n) := fun c hc => by
  unfold Txt.mul at hc
  split at hc
  · simp [Str.empty] at hc
  · split at hc
    · exact h c hc
    · rcases reps_mem hc with k | k
      · simp at k
      · exact h c k
theorem mul_len {z : Str} {n : Int} : (Txt.mul z n).length ≤ n.toNat * z.length := by
  unfold Txt.mul
  split
  · show (0 : Nat) ≤ _
    omega
  · split
    · have : 1 ≤ n.toNat := by omega
      calc z.length = 1 * z.length := (Nat.one_mul _).symm
        _ ≤ n.toNat * z.length := Nat.mul_le_mul_right _ this
    · show ((List.replicate n.toNat z.cps).foldl (· ++ ·) #[]).size ≤ _
      rw [reps_size]
      show 0 + n.toNat * z.cps.size ≤ n.toNat * z.cps.size
      omega
theorem mul_may {z : Str} {n : Int} (h0 : 0 ≤ n) (h1 : n ≤ 1000) (hz : z.length ≤ 1000) : MulOk z n := by
  refine ⟨?_, fun h2 h3 => ?_, fun h2 h3 => ?_⟩
  · rw [decide_eq_false (by omega), decide_eq_false (by omega)]
    rfl
  · have hn : (0 : Int) < n := by omega
    have h4 : (z.length : Int) * n ≤ 1000 * 1000 := Int.mul_le_mul (by omega) h1 h0 (by decide)
    have h5 : (z.length : Int) ≤ (2 ^ 63 - 1) / n := (Int.le_ediv_iff_mul_le hn).mpr (by omega)
    omega
  · unfold Builtin.Str.tooLong
    have : z.length * n.toNat ≤ 1000 * 1000 := Nat.mul_le_mul hz (by omega)
    have e : sizeLine = 16777216 := by decide
    rw [e]
    apply decide_eq_false
    omega
theorem cat_ok {x y : Str} (hx : Txt95 x) (hy : Txt95 y) : Txt95 (x ++ y) := fun c hc => by
  have hc : c ∈ (x.cps ++ y.cps).toList := hc
  rw [Array.toList_append, List.mem_append] at hc
  rcases hc with h | h
  · exact hx c h
  · exact hy c h
/-! the order of lists of codes -/
theorem lex_at : ∀ {a b : List Nat} {k x y : Nat}, a.take k = b.take k → a[k]? = some x → b[k]? = some y → x ≠ y → (a < b ↔ x < y)
  | [], _, _, _, _, _, h, _, _ => by simp at h
  | _ :: _, [], _, _, _, _, _, h, _ => by simp at h
  | p :: a, q :: b, 0, x, y, _, h1, h2, ne => by
    have e1 : p = x := by simpa using h1
    have e2 : q = y := by simpa using h2
    subst e1 e2
    rw [List.cons_lt_cons_iff]
    constructor
    · rintro (h | ⟨h, _⟩)
      · exact h
      · exact absurd h ne
    · exact .inl
  | p :: a, q :: b, k + 1, x, y, e, h1, h2, ne => by
    rw [List.take_succ_cons, List.take_succ_cons] at e
    injection e with e1 e2
    subst e1
    have ih := lex_at e2 (by simpa using h1) (by simpa using h2) ne
    rw [List.cons_lt_cons_iff, ih]
    constructor
    · rintro (h | ⟨_, h⟩)
      · exact absurd h (Nat.lt_irrefl _)
      · exact h
    · exact fun h => .inr ⟨rfl, h⟩
theorem lex_end : ∀ {a b : List Nat}, a.take (min a.length b.length) = b.take (min a.length b.length) → (a < b ↔ a.length < b.length)
  | [], [], _ => by simp
  | [], q :: b, _ => by simp
  | p :: a, [], _ => by simp
  | p :: a, q :: b, e => by
    rw [List.length_cons, List.length_cons, Nat.succ_min_succ, List.take_succ_cons, List.take_succ_cons] at e
    injection e with e1 e2
    subst e1
    have ih := lex_end e2
    rw [List.cons_lt_cons_iff, ih, List.length_cons, List.length_cons]
    constructor
    · rintro (h | ⟨_, h⟩)
      · exact absurd h (Nat.lt_irrefl _)
      · omega
    · exact fun h => .inr ⟨rfl, by omega⟩
/-! the places of signs -/
theorem five_tab : ∀ c, c < 127 → Nat.ble 32 c = true → Nat.ble c 36 = true → Builtin.Str.occurrences FIVE ⟨#[c]⟩ 0 FIVE.length 1 = [c - 32] := by decide +kernel
theorem later_tab : ∀ c, c < 127 → Nat.ble 38 c = true → Builtin.Str.occurrences LATER ⟨#[c]⟩ 0 LATER.length 1 = [c - 38] := by decide +kernel
theorem five_mem : ∀ c, c < 127 → okc c = true → ¬ c = 10 → (c ∈ FIVE.cps.toList ↔ c < 37) := by decide +kernel
section
variable {X : Cx}
theorem op_mul_str : OpR X (binaryOp .Mult) (fun x y H Q => ∃ z n, x = .str z ∧ y = .int n ∧ MulOk z n ∧ Q (.str (Txt.mul z n)) H) := by
  intro pins s σ H x y v u Q I rx ry h
  obtain ⟨i, j, rfl, rfl, hz, q⟩ := h
  obtain ⟨t, rfl⟩ := rx
  obtain ⟨t', rfl⟩ := ry
  exact SB.mul hz (fun t' tk => ⟨.str (Txt.mul i j), H, I.tok _, ⟨_, rfl⟩, q⟩)
theorem op_lt_bl : OpR X (compareOp .Lt) (fun x y H Q => ∃ i j, x = .bl i ∧ y = .bl j ∧ Q (.bl (decide (PyProof.Rows.b2i i < PyProof.Rows.b2i j))) H) := by
  intro pins s σ H x y v u Q I rx ry h
  obtain ⟨i, j, rfl, rfl, q⟩ := h
  cases (show v = Value.bool i from rx)
  cases (show u = Value.bool j from ry)
  exact PyProof.Rows.lt_bool ⟨.bl _, H, I, rfl, q⟩
end
end K2

namespace PySem.W
open PySem PySem.Spec PySem.Calls PyProof.Rows Builtin Builtin.ObjectAttr Builtin.Getset_descriptor
section
variable {prog : Program} {w : World} {A : Around} {E : Value → Shared → Prop} {s : Shared} {K : Frag} {x C : Addr} {ox : Obj} {od : Option Obj} {R : Result → Shared → Prop}
/-- e.__class__, as an expression, for an instance of an exception class of the program -/
theorem mx_classE {gt : Option Value} {Q : Value → Shared → Prop} {ex : Bool} (X : K.In s.heap) (I : InstAt s.heap x ox C od) (hga : findIn K (.ref C) "__getattribute__" = some (some (.builtin "BaseException.__getattribute__"))) (hgt : findIn K (.ref C) "__getattr__" = some gt)
    (hsub : subIn K (.ref C) (.type "BaseException") = some true) (hf : findObj K C od "__class__" = some (.bind (.builtin "getset_descriptor.__get__") (.builtin "object.__class__"))) (hm : mroIn K C (.type "object") = some true)
    (h : Q (.ref C) { s with toks := s.toks + 1 }) : wpAny (model prog w) A (getAttr (.ref x) "__class__" ex) Q E s := by
  obtain ⟨hp, g, d, t, os⟩ := s
  have L0 := I.type (M := model prog w)
  have L1 := looks_findIn (M := model prog w) X hga
  have L2 := looks_findIn (M := model prog w) X hgt
  have L3 := looks_find (M := model prog w) X I hf
  have sub : Looks (model prog w) hp (isInstance (.ref x) (.type "BaseException")) true := L0.andThen (looks_subIn X hsub)
  have hx0 : (ex && onTheHeap (Value.builtin "BaseException.__getattribute__")) = false := by cases ex <;> rfl
  have hx2 : (Value.builtin "BaseException.__getattribute__" == Value.builtin "object.__getattribute__") = false := by decide +kernel
  have hx1 : (onTheHeap (Value.ref C) && Value.builtin "BaseException.__getattribute__" == Value.builtin "object.__getattribute__") = false := by rw [hx2]; rfl
  unfold getAttr getAttrBy
  refine wpAny_bind (wpAny_mkText (wpAny_holding (wpAny_bind (L0.at (wpAny_bind (L1.at ?_))))))
  show wpAny _ _ (if (onTheHeap (Value.ref C) && Value.builtin "BaseException.__getattribute__" == Value.builtin "object.__getattribute__") = true then _ else _) _ _ _
  rw [hx1, if_neg Bool.false_ne_true]
  unfold getAttrByItsOwn hookBefore
  refine wpAny_bind ?_
  rw [if_pos (show onTheHeap (Value.ref C) = true from rfl)]
  refine L2.at ?_
  refine wpAny_bind (wpAny_attempt (wpAny_holding ?_))
  unfold callGetattribute
  rw [hx0, if_neg Bool.false_ne_true]
  unfold boundAndCalled
  rw [PySem.F.excAttr_ValueError.ga.bind (.ref x)]
  refine wpAny_bind (wpAny_pure ?_)
  show wpAny _ _ (call (.builtin "BaseException.__getattribute__") [.ref x, .str "__class__" t]) _ _ _
  refine wpAny_call (codeAny_call_builtin PySem.F.excAttr_ValueError.ga.plain PySem.F.entry_bexc_ga ?_)
  refine @PySem.W.check_slot (model prog w) _ _ ⟨hp, g, d, t + 1, os⟩ "BaseException.__getattribute__" "BaseException" "__getattribute__" (.ref x) [.str "__class__" t] [] _ (by decide +kernel) (by decide +kernel) sub (PySem.F.args_bexc_ga (.ref x) (.str "__class__" t)) ?_
  unfold Builtin.«object.__getattribute__»
  refine wpAny_bind (wpAny_of_eq (a := ((Value.ref x : Value), [Value.str "__class__" t])) (by first | rfl | (simp only [slotArgs]; rfl)) ?_)
  refine wpAny_bind (wpAny_pure (wpAny_bind (L0.at (wpAny_bind (L3.at ?_)))))
  refine wpAny_bind (wpAny_holding (wpAny_call (class_get (s := ⟨hp, g, d, t + 1, os⟩) (ox := ox) (od := od) X I hm ?_)))
  refine wpAny_pure ?_
  show wpAny _ _ (handedOut (.ref C)) _ _ _
  rw [handedOut_of (show handedIn (.ref C) = true from rfl)]
  first | exact wpAny_pure h | exact wpAny_pure (wpAny_pure h)
/-- C.__name__ of a class of the program whose name is kept -/
theorem mx_nameC {o : Obj} {nm : Str} {tk : Tok} {tp : Value} (X : K.In s.heap) (ht : typeIn K (.ref C) = some (.type "type")) (hl : K.lookup C = some o) (hs : o.slots[2]? = some (some (.str nm tk))) (h : R (.ok (.ret (.str nm tk))) s) :
    codeAny (model prog w) A (.call (.builtin "getset_descriptor.__get__") ⟨[.builtin "type.__name__", .ref C, tp], []⟩) R s := by
  obtain ⟨hh, g, dr, t, os⟩ := s
  have L0 := looks_typeIn (M := model prog w) X ht
  have L1 : Looks (model prog w) hh (isSubtype (.type "type") (.type "type")) true := Looks.of_pure (by rw [isSubtype_type]; kernel_rfl)
  have ho := X _ _ hl
  refine codeAny_call_builtin KF.slot_gs.plain KF.entry_gs (KF.slot_gs.check _ _ _ _ _ _ _ _ ktyn_type (KF.args_gs _ _ _) ?_)
  unfold Builtin.«getset_descriptor.__get__» descrGet
  rw [dga_obj]
  refine wpAny_bind (wpAny_pure ?_)
  unfold descrGetter descrCheckInstance descrNameAndClass isInstance
  simp only [ktyn_owner]
  repeat lk
  refine ⟨Code.quiet_builtin _ (by decide +kernel), codeAny_builtin ktyn_entry ?_⟩
  unfold Builtin.«type.__name__»
  dsimp only
  unfold keptObject slotAt
  dsimp only
  refine wpAny_bind (wpAny_bind (wpAny_loadPart ho (wpAny_pure ?_)))
  rw [hs]
  first
    | exact wpAny_bind (wpAny_pure h)
    | exact wpAny_pure h
    | exact wpAny_bind (wpAny_pure (wpAny_pure h))
end
end PySem.W
namespace L2
open PySem PySem.Spec PyProof.Rows
/-- what the written part says of an exception class's name -/
structure NameC (K : PySem.W.Frag) (C : Addr) (nm : Str) : Prop where
  rd : PySem.W.readsIn K C (.type "type") = true
  fc : PySem.W.findCls K (.ref C) (.type "type") "__name__" = some (.get (.builtin "getset_descriptor.__get__") (.builtin "type.__name__") (.ref C) (.type "type"))
  ty : PySem.W.typeIn K (.ref C) = some (.type "type")
  lk : ∃ o tk, K.lookup C = some o ∧ o.slots[2]? = some (some (.str nm tk))
/-- e.__class__, e an exception that is being made -/
def tECls (K : PySem.W.Frag) (te : TE) : TE := fun σ H Q => te σ H fun x H1 => ∃ (a C : Addr) (d : Option Addr), x = .ref a ∧ ExcC K C ∧ H1 a = some (exo a C d) ∧ (∀ dx, d = some dx → ∃ fs, H1 dx = some (exd dx fs)) ∧ Q (.ref C) H1
/-- C.__name__ -/
def tCNm (K : PySem.W.Frag) (te : TE) : TE := fun σ H Q => te σ H fun x H1 => ∃ (C : Addr) (nm : Str), x = .ref C ∧ NameC K C nm ∧ Q (.str nm) H1
section
variable {X : Cx} {e : Expr} {te : TE} {pos : Pos}
theorem pe_eclass (he : PE X e te) (hb : attributeBase e "__class__" X.env (eval e X.env) = eval e X.env := by rfl) : PE X (.Attribute e "__class__" pos) (tECls X.K te) := by
  refine ⟨fun pins s σ H Q I h => ?_⟩
  refine attr_of hb (thn (he.run pins s σ H _ I h) fun u s1 ⟨x, H1, I1, rx, a, C, d, ex, T, ea, hd, q⟩ => ?_)
  subst ex
  obtain rfl : u = Value.ref a := rx
  obtain ⟨t1, ho⟩ := exo_at I1.hok ea
  have hcl : (PySem.W.clsIn X.K C).isSome = true := by
    obtain ⟨cd, hc, _⟩ := PySem.W.any_some T.hd
    rw [hc]
    rfl
  have key : ∀ od, PySem.W.InstAt s1.heap a { cls := .ref C, dict := d, data := .fields #[.ref t1, .none, .none, .none, .bool false, .none] } C od → wpAny (model X.prog X.w) X.A (getAttr (.ref a) "__class__" true) (EP X pins σ Q) X.xe s1 := fun od J =>
    PySem.W.mx_classE I1.kIn J T.hg T.hk T.hs (PySem.W.findObj_dataE hcl T.ha T.hn T.ht) T.hm ⟨.ref C, H1, I1.tok _, rfl, q⟩
  cases d with
  | none => exact key none ⟨ho, rfl, rfl, trivial⟩
  | some dx =>
    obtain ⟨fs, ed⟩ := hd dx rfl
    obtain ⟨mA, ⟨oD, _, _, hoD, _⟩, _⟩ := exd_at I1.hok ed
    exact key (some oD) ⟨ho, rfl, rfl, hoD⟩
theorem pe_cname (he : PE X e te) (hb : attributeBase e "__name__" X.env (eval e X.env) = eval e X.env := by rfl) : PE X (.Attribute e "__name__" pos) (tCNm X.K te) := by
  refine ⟨fun pins s σ H Q I h => ?_⟩
  refine attr_of hb (thn (he.run pins s σ H _ I h) fun u s1 ⟨x, H1, I1, rx, C, nm, ex, T, q⟩ => ?_)
  subst ex
  obtain rfl : u = Value.ref C := rx
  obtain ⟨o, tk, hl, hs⟩ := T.lk
  refine PySem.W.cls_bind I1.kIn T.rd T.fc (wpAny_call (PySem.W.mx_nameC (s := { s1 with toks := s1.toks + 1 }) I1.kIn T.ty hl hs ?_))
  exact PySem.W.handed_on rfl ⟨.str nm, H1, I1.tok _, ⟨_, rfl⟩, q⟩
/-- isinstance(e, c), e the exception that the suite holds, which has its dict -/
def rIsE2 (K : PySem.W.Frag) (D a : Addr) (cls : Value) (d : Option Addr) : List V → Hp → VK → Prop := fun xs H Q => ∃ (c : V) (cv : Value) (b : Bool) (dd : Addr) (fs : List (Str × V)), xs = [.ref a, c] ∧ cls = .ref D ∧ d = some dd ∧ H dd = some (.xd fs) ∧ (∀ u, RelV c u → u = cv) ∧ PySem.W.kitOne K (.ref D) cv = some b ∧ Q (.bl b) H
theorem call_isE2 {a D : Addr} {oe : Obj} {cls : Value} {d : Option Addr} {pn : List (Addr × Obj)} (C : ExcC X.K D) (hz : Zc cls d oe) (hf : ∃ vs, oe.data = .fields vs) : CallR (X.suite a ((a, oe) :: pn)) (.builtin "isinstance") (rIsE2 X.K D a cls d) := by
  intro pins s σ H xs us Q I r h
  obtain ⟨c, cv, b, dd, fs, rfl, ec, ed, ea, hcv, e, q⟩ := h
  subst ec
  cases r with
  | cons rx rr =>
    cases rr with
    | cons rt rr =>
      cases rr
      cases rx
      have ec := hcv _ rt
      subst ec
      obtain ⟨hget, _⟩ := I.pin (a, oe) (List.mem_append.mpr (.inl List.mem_cons_self))
      obtain ⟨vs, hv⟩ := hf
      have hx : ObjOk X.prog X.w H s.heap dd (.xd fs) := I.hok dd _ ea
      obtain ⟨mA, ⟨od, _, _, hod, _⟩, _⟩ := hx
      have hcl : (PySem.W.clsIn X.K D).isSome = true := by
        obtain ⟨cd, hc, _⟩ := PySem.W.any_some C.hd
        rw [hc]
        rfl
      have J : PySem.W.InstAt s.heap a oe D (some od) := ⟨hget, hz.1, by unfold PySem.W.notCls; rw [hv] <;> rfl, by rw [hz.2, ed]; exact hod⟩
      exact PySem.W.kia_one (PySem.W.kitx_exc hcl C.hg C.hk C.hs C.ha C.hn C.ht C.hm) I.kIn J e (fun z => nomatch z) fun tk => ⟨.bl b, H, I.kept (t' := tk) fun _ _ z => z, rfl, q⟩
theorem passNo {X : Cx} : Passes (L2.CX X.prog X.w) X (fun _ _ _ => False) := fun _ _ _ _ _ _ _ h => by
  obtain ⟨_, _, _, _, _, _, _, _, _, _, _, _, q⟩ := h
  exact q.elim
end
end L2

namespace L2
open PySem PySem.Spec PyProof.Rows
/-- list(e.values()) -/
def tListVals (te : TE) : TE := fun σ H Q => te σ H fun x H1 => ∃ (d : Addr) (kvs : List (Key × V)), x = .ref d ∧ H1 d = some (.dK kvs) ∧ ∀ q, H1 q = none → Q (.ref q) (upd H1 q (.lst (kvs.map (·.2))))
section
variable {X : Cx} {e : Expr} {te : TE} {p pos apos cpos : Pos}
theorem pe_listVals (hc : X.calm = true) (he : PE X e te) (hg : Gl X "list") (hm : X.mg "list" = none) (hv : bootBuiltins "list" = some (.type "list")) (hbase : attributeBase e "values" X.env (eval e X.env) = eval e X.env := by rfl) (hline : (apos.endLine == cpos.line) = true := by rfl)
    (hs : starEach [.Call (.Attribute e "values" apos) [] [] cpos] X.env = (false, eval (.Call (.Attribute e "values" apos) [] [] cpos) X.env) :: starEach [] X.env := by rfl) :
    PE X (.Call (.Name "list" p) [.Call (.Attribute e "values" apos) [] [] cpos] [] pos) (tListVals te) := by
  refine ⟨fun pins s σ H Q I hq => ?_⟩
  refine wpAny_Call_Name_kw (ld_blt I hg hm hv ?_)
  refine PyProof.Rows.callWith_type1 ?_ hs rfl
  rw [hs]
  show wpAny _ _ (spliced ((false, eval (.Call (.Attribute e "values" apos) [] [] cpos) X.env) :: backTo pos (starEach [] X.env))) _ _ s
  refine Calls.spliced_cons ?_
  refine wpAny_Call_method (T := "dict") (id := "dict.values") hbase rfl hline F.plainAttrs_dict F.slot_dict_values F.type_dict_values (thn (he.run pins s σ H _ I hq) fun u s1 ⟨x, H1, I1, rx, d, kvs, ex, hd, q⟩ => ?_)
  subst ex
  obtain rfl : u = Value.ref d := rx
  obtain ⟨hz, hs0, vs, kv, hdo⟩ := I1.hok d _ hd
  obtain ⟨ep, hat⟩ := hdo.dictAt
  have lk : kvs.length = vs.length := Paired.length kv
  have I2 : Inv X pins σ H1 { s1 with heap := s1.heap.push { cls := .type "dict_values", data := .fields #[.ref d] } } := I1.kept (t' := s1.toks) fun b ob q => Heap.get?_push_of_some _ q
  refine ⟨hdo.typeIs, hdo.mapOf.noDict, ?_⟩
  show wpAny _ _ (callWith cpos (.builtin "dict.values") [.ref d] [] []) _ X.xe s1
  refine method_meetsIn F.slot_dict_values F.entry_dict_values rfl (PySem.evalArgs_none ⟨rfl, hdo.typeIs, F.args_dict_values_1 _, _, meets_dict_values (mixKind X.prog X.w) d hs0, ⟨vs, hdo⟩, ?_⟩)
  refine Calls.spliced_nil ?_
  refine PySem.W.kdl_call (PySem.W.kdl_values (knd := mixKind X.prog X.w) (kvs := vs) (ep := ep) (r := s1.heap.objs.size) (d := d)) (I1.ok.hd hc) ⟨⟨_, Heap.get?_push_size _ rfl, rfl, rfl⟩, hat.push _⟩ (by omega) fun h' tk acc' c' hk hS hacc => ?_
  generalize hA : (s1.heap.push { cls := .type "dict_values", data := .fields #[.ref d] }) = h1 at *
  refine ⟨.ref h1.objs.size, upd H1 h1.objs.size (.lst (kvs.map (·.2))), I2.laid hk (Nat.le_refl _) (show ObjOk X.prog X.w _ _ _ (.lst (kvs.map (·.2))) from ⟨?_, acc'.toList, c', ?_, ?_⟩), rfl, q _ (I2.hok.fresh (Nat.le_refl _))⟩
  · rw [List.length_map]; exact hz
  · have el : acc'.toList.length = acc'.size := by simp
    refine vals_of_at (by rw [List.length_map, el, hacc.1, lk]) fun j x w h1 h2 => ?_
    obtain ⟨k, hky⟩ := hacc.2 j w (by rw [← Array.getElem?_toList]; exact h2)
    obtain ⟨y, hy, ry⟩ := KV.at' kv hky
    rw [List.getElem?_map, hy] at h1
    have : y = x := Option.some.inj h1
    rw [← this]
    exact ry
  · rw [Array.toArray_toList]; exact hS
end
end L2

namespace K2
open PySem L2
abbrev sInit : Stmt := inClass (top 1) 0
abbrev sIsText : Stmt := top 10
abbrev sEnc : Stmt := top 11
abbrev sDec : Stmt := top 12
abbrev sIsCode : Stmt := top 13
abbrev sChar : Stmt := top 14
abbrev sIsInt : Stmt := top 17
abbrev sSame : Stmt := top 18
abbrev sAlph : Stmt := top 19
abbrev sTold : Stmt := top 20
abbrev sLaw : Stmt := top 21
theorem iteB {b : Bool} {A B : Prop} (e : b = true) (h : A) : if b = true then A else B := by
  rw [if_pos e]
  exact h
theorem iteBF {b : Bool} {A B : Prop} (e : b = false) (h : B) : if b = true then A else B := by
  subst e
  exact iteF h
/-- a sign's text -/
def sg (c : Nat) : Str := ⟨#[c]⟩
/-- a code as a value -/
abbrev ic (c : Nat) : V := V.int (c : Int)
/-- an octet that is a code -/
def okI (n : Int) : Bool := decide (n = 10) || (decide (32 ≤ n) && decide (n ≤ 126) && !decide (n = 37))
theorem okI_c {n : Int} (h : okI n = true) : ∃ c : Nat, n = (c : Int) ∧ okc c = true := by
  unfold okI at h
  rw [Bool.or_eq_true, Bool.and_eq_true, Bool.and_eq_true, decide_eq_true_eq, decide_eq_true_eq, decide_eq_true_eq, Bool.not_eq_true', decide_eq_false_iff_not] at h
  refine ⟨n.toNat, by omega, ?_⟩
  unfold okc
  rw [Bool.or_eq_true, Bool.and_eq_true, Bool.and_eq_true, beq_iff_eq, Nat.ble_eq, Nat.ble_eq, Bool.not_eq_true', beq_eq_false_iff_ne]
  omega
theorem okI_of {c : Nat} (h : okc c = true) : okI (c : Int) = true := by
  unfold okc at h
  rw [Bool.or_eq_true, Bool.and_eq_true, Bool.and_eq_true, beq_iff_eq, Nat.ble_eq, Nat.ble_eq, Bool.not_eq_true', beq_eq_false_iff_ne] at h
  unfold okI
  rw [Bool.or_eq_true, Bool.and_eq_true, Bool.and_eq_true, decide_eq_true_eq, decide_eq_true_eq, decide_eq_true_eq, Bool.not_eq_true', decide_eq_false_iff_not]
  omega
/-- the text of codes -/
def txt (cs : List Nat) : Str := ⟨cs.toArray⟩
theorem txt_cps (cs : List Nat) : (txt cs).cps.toList = cs := by simp [txt]
theorem join_sg : ∀ cs : List Nat, Str.join ("" : Str) (cs.map sg) = txt cs
  | [] => rfl
  | [c] => rfl
  | c :: d :: r => by
    have ih := join_sg (d :: r)
    show sg c ++ ("" : Str) ++ Str.join ("" : Str) ((d :: r).map sg) = txt (c :: d :: r)
    rw [ih]
    have e0 : ("" : Str) = ⟨#[]⟩ := by decide +kernel
    rw [e0]
    show Str.mk ((#[c] ++ #[]) ++ (d :: r).toArray) = Str.mk (c :: d :: r).toArray
    simp
theorem join_txt (cs : List Nat) : Txt.join ("" : Str) (cs.map sg) = txt cs := by
  show Builtin.Str.glued ("" : Str) (cs.map sg) = txt cs
  rw [StrLaws.glued_eq_join, join_sg]
theorem sg_sum (cs : List Nat) : ((cs.map sg).map (·.length)).sum = cs.length := by
  induction cs with
  | nil => rfl
  | cons c r ih =>
    rw [List.map_cons, List.map_cons, List.sum_cons, ih, List.length_cons]
    show 1 + r.length = _
    omega
theorem char_tab : ∀ c, c < 127 → okc c = true → ¬ c = 10 → CHS.cps.toList[c - 32]? = some c := by decide +kernel
structure Nm (mg : Str → Option Value) : Prop where
  range : mg "range" = none
  int : mg "int" = none
  len : mg "len" = none
  isinstance : mg "isinstance" = none
  bool : mg "bool" = none
  list : mg "list" = none
  ord : mg "ord" = none
  enumerate : mg "enumerate" = none
  ve : mg "ValueError" = none
  ch : ∃ u, mg "CHARACTERS" = some u ∧ RelV (.str CHS) u
  lf : ∃ u, mg "LINE_FEED" = some u ∧ RelV (.int 10) u
  sp : ∃ u, mg "SPACE" = some u ∧ RelV (.int 32) u
  pc : ∃ u, mg "PERCENT_SIGN" = some u ∧ RelV (.int 37) u
  ti : ∃ u, mg "TILDE" = some u ∧ RelV (.int 126) u
section
variable {P : Program} {w : World} {K : PySem.W.Frag} {mg : Str → Option Value} {base : Heap}
/-! ### the error -/
structure ErrC (K : PySem.W.Frag) (C fI : Addr) (nm : Str) : Prop where
  oc : OexC K C
  ec : ExcC K C
  nc : NameC K C nm
  xf : XfC K C
  noP : PySem.W.findIn K (.ref C) "place" = some none
  noN : PySem.W.findIn K (.ref C) "name" = some none
  iC : PySem.W.findIn K (.ref C) "__init__" = some (some (.ref fI))
  tI : PySem.W.typeIn K (.ref fI) = some (.type "function")
def spInit (K : PySem.W.Frag) (fI : Addr) : Sp := fun vs H Q _ => ∃ (a C : Addr) (nm : Str) (v : V), vs = [.ref a, v] ∧ ErrC K C fI nm ∧ H a = some (exo a C none) ∧
  ∀ dx, H dx = none → dx ≠ a → Q .non (upd (upd (upd H dx (exd dx [("place", v)])) a (exo a C (some dx))) dx (exd dx [("name", .str nm), ("place", v)]))
theorem scInit : FnScope ["self", "place"] ["self", "place"] (defScope sInit) := ⟨rfl, rfl, rfl, by decide +kernel, rfl, by decide +kernel, by decide +kernel⟩
theorem ok_init {f : Addr} {fd : FuncData} (F : Fun K "__init__" "ManysidesError.__init__" sInit f fd) : FnOk P w K mg base CX0 1 f fd ["self", "place"] (spInit K f) := by
  refine F.ok scInit (fun vs H Q E h => ?_) (fun cdv A outer s H vs Q E hr h => ?_)
  · obtain ⟨a, C, nm, v, rfl, _⟩ := h
    rfl
  · obtain ⟨a, C, nm, v, rfl, T, ha, q⟩ := h
    refine ⟨_, pss_cons (ps_ost (pv 0) (pv 1)) (pss_one (ps_ost (pv 0) (pe_cname (pe_eclass (pv 0))))), ?_⟩
    refine ⟨_, rfl, _, rfl, a, C, rfl, T.oc, T.noP, .inl ⟨ha, fun dx ndx nda => ?_⟩⟩
    have e1 : (upd (upd H dx (exd dx [("place", v)])) a (exo a C (some dx))) dx = some (exd dx [("place", v)]) := by rw [upd_ne nda, upd_same]
    refine ⟨_, rfl, a, C, some dx, rfl, T.ec, upd_same, fun d e => ?_, C, nm, rfl, T.nc, _, rfl, a, C, rfl, T.oc, T.noN, .inr ⟨dx, _, upd_same, e1, (by show 1 ≤ 900; decide), q dx ndx nda⟩⟩
    cases e
    exact ⟨_, e1⟩
/-! ### is_text, encode_text -/
def spIsText : Sp := fun vs H Q _ => ∃ z : Str, vs = [.str z] ∧ Txt95 z ∧ z.length ≤ 100000 ∧ Q (.bl true) H
theorem scIsText : FnScope ["text"] ["text"] (defScope sIsText) := ⟨rfl, rfl, rfl, by decide +kernel, rfl, by decide +kernel, by decide +kernel⟩
theorem ok_isText {f : Addr} {fd : FuncData} (F : Fun K "is_text" "is_text" sIsText f fd) (N : Nm mg) : FnOk P w K mg base CX0 1 f fd ["text"] spIsText := by
  refine F.ok scIsText (fun vs H Q E h => ?_) (fun cdv A outer s H vs Q E hr h => ?_)
  · obtain ⟨z, rfl, _⟩ := h
    rfl
  · obtain ⟨z, rfl, hz, hl, q⟩ := h
    obtain ⟨u, mu, ru⟩ := N.ch
    refine ⟨_, pss_one (ps_ret (pe_cmpR op_eq (pe_m1 PySem.F.slot_str_strip PySem.F.type_str_strip mt_stripChars (pv 0) (pe_glob (by rfl) mu ru)) pe_str (nomark _))), ?_⟩
    refine ⟨_, rfl, ⟨z, rfl⟩, z, CHS, rfl, rfl, Nat.le_trans hl (by decide), rfl, ?_⟩
    rw [strip_ok hz, decide_eq_true rfl]
    exact q
def spEnc : Sp := fun vs H Q _ => ∃ cs : List Nat, vs = [.str (txt cs)] ∧ cs.length ≤ 1000 ∧ ∀ H' p, Same H H' → H p = none → H' p = some (.lst (cs.map ic)) → Q (.ref p) H'
theorem scEnc : FnScope ["text", "character"] ["text"] (defScope sEnc) := ⟨rfl, rfl, rfl, by decide +kernel, rfl, by decide +kernel, by decide +kernel⟩
theorem ok_enc {f : Addr} {fd : FuncData} (F : Fun K "encode_text" "encode_text" sEnc f fd) (N : Nm mg) : FnOk P w K mg base CX0 1 f fd ["text"] spEnc := by
  refine F.ok scEnc (fun vs H Q E h => ?_) (fun cdv A outer s H vs Q E hr h => ?_)
  · obtain ⟨z, rfl, _⟩ := h
    rfl
  · obtain ⟨cs, rfl, hl, q⟩ := h
    refine ⟨_, pss_one (ps_ret (pe_lc (own := [("character", 1)]) (g := gName 1) (tt := tYes) rfl scEnc.nd (pi_str (pv 0))
        (blkOk_by (N := ["text", "character"]) (sc := defScope sEnc) (by decide +kernel))
        (fun _ _ _ _ _ => pg_name (i := 1) scEnc.nd rfl (Or.inl rfl)) (fun _ _ _ _ _ => pts_nil)
        (fun _ _ _ _ _ => pe_callB call_ord (by rfl) N.ord (by decide +kernel) (pa_cons (pv 1) pa_nil)))), ?_⟩
    refine ⟨_, rfl, txt cs, rfl, fun D nD => ?_⟩
    have hsz : (txt cs).cps.size = cs.length := by simp [txt]
    refine lc_it walk_str (fun i H3 => Same H H3 ∧ H3 D = some (.lst ((cs.take i).map ic))) ⟨same_new nD, upd_same⟩ (fun _ _ _ _ => True.intro) ?_ ?_
    · rintro i x H3 H' hi ⟨sm, hD⟩ ⟨rfl, c, hc, rfl⟩
      have hi' : i < cs.length := by omega
      have ec : cs[i]? = some c := by
        have : (txt cs).cps[i]? = cs[i]? := by simp [txt]
        rw [← this]
        exact hc
      refine ⟨rfl, ?_⟩
      dsimp only [tYes]
      rw [if_pos rfl]
      refine ⟨_, rfl, _, rfl, rfl, _, hD, ?_, same_put sm nD, ?_⟩
      · rw [List.length_map, List.length_take]
        exact small1000 (by omega)
      · rw [upd_same, List.take_add_one, ec, List.map_append]
        rfl
    · rintro H3 ⟨sm, hD⟩
      rw [hsz, List.take_length] at hD
      exact q H3 D sm nD hD
/-! ### is_code, character_of -/
def spIsCode : Sp := fun vs H Q _ => ∃ n : Int, vs = [.int n] ∧ Q (.bl (okI n)) H
theorem scIsCode : FnScope ["octet"] ["octet"] (defScope sIsCode) := ⟨rfl, rfl, rfl, by decide +kernel, rfl, by decide +kernel, by decide +kernel⟩
theorem int_eq (a b : Int) : decide (V.int a = V.int b) = decide (a = b) := by
  by_cases e : a = b
  · subst e
    rw [decide_eq_true rfl, decide_eq_true rfl]
  · rw [decide_eq_false e, decide_eq_false fun h => e (V.int.inj h)]
theorem ok_isCode {f : Addr} {fd : FuncData} (F : Fun K "is_code" "is_code" sIsCode f fd) (N : Nm mg) : FnOk P w K mg base CX0 1 f fd ["octet"] spIsCode := by
  refine F.ok scIsCode (fun vs H Q E h => ?_) (fun cdv A outer s H vs Q E hr h => ?_)
  · obtain ⟨n, rfl, _⟩ := h
    rfl
  · obtain ⟨n, rfl, q⟩ := h
    obtain ⟨u1, m1, r1⟩ := N.lf
    obtain ⟨u2, m2, r2⟩ := N.sp
    obtain ⟨u3, m3, r3⟩ := N.pc
    obtain ⟨u4, m4, r4⟩ := N.ti
    refine ⟨_, pss_one (ps_ret (pe_or (pe_cmpR op_eq (pv 0) (pe_glob (by rfl) m1 r1) (nomark _))
      (pe_one (pe_and (pe_chain op_le op_le (pe_glob (by rfl) m2 r2) (pv 0) (pe_glob (by rfl) m4 r4)) (pe_one (pe_cmpR op_ne (pv 0) (pe_glob (by rfl) m3 r3) (nomark _))))))), ?_⟩
    refine ⟨_, rfl, rfl, _, rfl, ?_⟩
    rw [int_eq]
    have e0 : okI n = (decide (n = 10) || (decide (32 ≤ n) && decide (n ≤ 126) && !decide (n = 37))) := rfl
    by_cases h1 : n = 10
    · refine iteB (decide_eq_true h1) ?_
      rw [e0, decide_eq_true h1, Bool.true_or] at q
      exact q
    · refine iteBF (decide_eq_false h1) ⟨_, rfl, 32, n, rfl, rfl, _, rfl, ?_⟩
      rw [e0, decide_eq_false h1, Bool.false_or] at q
      by_cases h2 : 32 ≤ n
      · refine iteB (decide_eq_true h2) ⟨n, 126, rfl, rfl, _, rfl, ?_⟩
        rw [decide_eq_true h2, Bool.true_and] at q
        by_cases h3 : n ≤ 126
        · refine iteB (decide_eq_true h3) ⟨_, rfl, rfl, ?_⟩
          rw [decide_eq_true h3, Bool.true_and] at q
          rw [int_eq]
          exact q
        · refine iteBF (decide_eq_false h3) ?_
          rw [decide_eq_false h3, Bool.false_and] at q
          exact q
      · refine iteBF (decide_eq_false h2) ⟨_, rfl, iteF ?_⟩
        rw [decide_eq_false h2, Bool.false_and, Bool.false_and] at q
        exact q
def spChar : Sp := fun vs H Q _ => ∃ c : Nat, vs = [.int (c : Int)] ∧ okc c = true ∧ Q (.str (sg c)) H
theorem scChar : FnScope ["code"] ["code"] (defScope sChar) := ⟨rfl, rfl, rfl, by decide +kernel, rfl, by decide +kernel, by decide +kernel⟩
theorem nl_sg : ("\n" : Str) = sg 10 := by decide +kernel
theorem ok_char {f : Addr} {fd : FuncData} (F : Fun K "character_of" "character_of" sChar f fd) (N : Nm mg) : FnOk P w K mg base CX0 1 f fd ["code"] spChar := by
  refine F.ok scChar (fun vs H Q E h => ?_) (fun cdv A outer s H vs Q E hr h => ?_)
  · obtain ⟨c, rfl, _⟩ := h
    rfl
  · obtain ⟨c, rfl, hc, q⟩ := h
    obtain ⟨u1, m1, r1⟩ := N.lf
    obtain ⟨u2, m2, r2⟩ := N.sp
    obtain ⟨u3, m3, r3⟩ := N.ch
    refine ⟨_, pss_cons (ps_if (pt_cmpR op_eq (pv 0) (pe_glob (by rfl) m1 r1) (nomark _)) (pss_one (ps_ret pe_str)) pss_nil)
      (pss_one (ps_ret (pe_ix ix_str (pe_glob (by rfl) m3 r3) (pe_op op_sub (pv 0) (pe_glob (by rfl) m2 r2)) (fun _ _ => rfl)))), ?_⟩
    refine ⟨_, rfl, rfl, _, rfl, ?_⟩
    rw [int_eq]
    by_cases h1 : c = 10
    · refine iteB (decide_eq_true (by omega)) ?_
      subst h1
      show Q (.str ("\n" : Str)) H
      rw [nl_sg]
      exact q
    · refine iteBF (decide_eq_false (by omega)) ?_
      have h2 := okc_lt hc
      have h3 := char_tab c h2 hc h1
      have h4 : 32 ≤ c := by
        unfold okc at hc
        rw [Bool.or_eq_true, Bool.and_eq_true, Bool.and_eq_true, beq_iff_eq, Nat.ble_eq, Nat.ble_eq] at hc
        omega
      refine ⟨_, rfl, _, _, rfl, rfl, CHS, _, c, rfl, rfl, (by decide +kernel), ?_, q⟩
      have : (c : Int) - 32 = ((c - 32 : Nat) : Int) := by omega
      show atI CHS.cps.toList ((c : Int) - 32) = some c
      rw [this]
      exact atI_nat h3
end
end K2

namespace K2
open PySem L2
/-- the first octet that is no code -/
def bad1 : List Int → Option Nat
  | [] => none
  | n :: r => if okI n then (bad1 r).map (· + 1) else some 0
theorem bad1_none : ∀ {os : List Int}, bad1 os = none → ∀ n ∈ os, okI n = true
  | [], _, n, h => (List.not_mem_nil h).elim
  | m :: r, e, n, h => by
    unfold bad1 at e
    by_cases hm : okI m = true
    · rw [if_pos hm] at e
      have e2 : bad1 r = none := by simpa using e
      rcases List.mem_cons.mp h with rfl | h
      · exact hm
      · exact bad1_none e2 n h
    · rw [if_neg hm] at e
      cases e
theorem bad1_ok : ∀ {os : List Int}, (∀ n ∈ os, okI n = true) → bad1 os = none
  | [], _ => rfl
  | m :: r, h => by
    unfold bad1
    rw [if_pos (h m (List.mem_cons_self ..)), bad1_ok fun n hn => h n (List.mem_cons_of_mem _ hn)]
    rfl
theorem bad1_take : ∀ {os : List Int} {i : Nat} {n : Int}, os[i]? = some n → bad1 (os.take i) = none → bad1 (os.take (i + 1)) = if okI n then none else some i
  | [], _, _, h, _ => by simp at h
  | m :: r, 0, n, h, _ => by
    have : m = n := Option.some.inj h
    subst this
    show bad1 [m] = _
    unfold bad1
    rfl
  | m :: r, i + 1, n, h, e => by
    have hm : okI m = true := bad1_none e m (by simp)
    have e2 : bad1 (r.take i) = none := by
      have e := e
      rw [List.take_succ_cons] at e
      unfold bad1 at e
      rw [if_pos hm] at e
      simpa using e
    have ih := bad1_take (os := r) (i := i) (n := n) (by simpa using h) e2
    rw [List.take_succ_cons]
    unfold bad1
    rw [if_pos hm, ih]
    by_cases hn : okI n = true
    · rw [if_pos hn, if_pos hn]
      rfl
    · rw [if_neg hn, if_neg hn]
      rfl
theorem bad1_stop : ∀ {os : List Int} {i j : Nat}, bad1 (os.take j) = some i → bad1 os = some i
  | [], _, _, h => by simp [bad1] at h
  | m :: r, i, 0, h => by simp [bad1] at h
  | m :: r, i, j + 1, h => by
    rw [List.take_succ_cons] at h
    unfold bad1 at h ⊢
    by_cases hm : okI m = true
    · rw [if_pos hm] at h ⊢
      cases e : bad1 (r.take j) with
      | none =>
        rw [e] at h
        cases h
      | some k =>
        rw [e] at h
        rw [bad1_stop e]
        exact h
    · rw [if_neg hm] at h ⊢
      exact h
/-- octets as codes -/
def nats (os : List Int) : List Nat := os.map Int.toNat
theorem len_zs {α β : Type} {f : α → β} {l : List α} {i : Nat} (h : i ≤ 1000) (hi : i < l.length) : ((l.take i).map f).length < sizeLine := by
  rw [List.length_map, List.length_take]
  exact small1000 (by omega)
section
variable {P : Program} {w : World} {K : PySem.W.Frag} {mg : Str → Option Value} {base : Heap}
def spDec (K : PySem.W.Frag) (C : Addr) : Sp := fun vs H Q E => ∃ (a : Addr) (os : List Int), vs = [.ref a] ∧ SqL K H a (os.map V.int) ∧ os.length ≤ 1000 ∧
  (bad1 os = none → ∀ H', Same H H' → Q (.str (txt (nats os))) H') ∧
  (∀ i, bad1 os = some i → ∀ H' d, Same H H' → H d = none → H' d = some (.xd [("name", .str "InvalidText"), ("place", .int (i : Int))]) → E (.ref C) (some d) H')
theorem scDec : FnScope ["octets", "index", "octet"] ["octets"] (defScope sDec) := ⟨rfl, rfl, rfl, by decide +kernel, rfl, by decide +kernel, by decide +kernel⟩
theorem ok_dec {f fC fH fI C : Addr} {fd fdC fdH fdI : FuncData} (F : Fun K "decode_text" "decode_text" sDec f fd) (N : Nm mg) (FC : Fun K "is_code" "is_code" sIsCode fC fdC) (bC : Binds K fdC ["octet"] []) (gC : mg "is_code" = some (.ref fC))
    (FH : Fun K "character_of" "character_of" sChar fH fdH) (bH : Binds K fdH ["code"] []) (gH : mg "character_of" = some (.ref fH)) (FI : Fun K "__init__" "ManysidesError.__init__" sInit fI fdI) (bI : Binds K fdI ["self", "place"] []) (T : ErrC K C fI "InvalidText") (gE : mg "InvalidText" = some (.ref C)) :
    FnOk P w K mg base (L2.CX P w) 3 f fd ["octets"] (spDec K C) := by
  have GC : FnOk P w K mg base CX0 1 fC fdC ["octet"] spIsCode := ok_isCode FC N
  have GH : FnOk P w K mg base CX0 1 fH fdH ["code"] spChar := ok_char FH N
  have GI : FnOk P w K mg base CX0 1 fI fdI ["self", "place"] (spInit K fI) := ok_init FI
  refine F.okX scDec (fun vs H Q E h => ?_) (fun cdv A outer s H vs Q E hr h => ?_)
  · obtain ⟨a, os, rfl, _⟩ := h
    rfl
  · obtain ⟨a, os, rfl, hS, hl, q, qe⟩ := h
    have hr1 := hr.mono (j := 1) (by decide)
    refine ⟨_, pss_cons (ps_for (passes_of rfl) rfl (pi_enum (by rfl) N.enumerate (pa_cons (pv 0) pa_nil)) (pg_tup (by rfl) (pgs_cons (pg_name (i := 1) scDec.nd rfl (.inl rfl)) (pgs_cons (pg_name (i := 2) scDec.nd rfl (.inl rfl)) pgs_nil)))
        (pss_one (ps_if (pt_not (pt_val (pe_call GC hr1 (by rfl) gC FC.kp bC .nil pass0 (pa_cons (pv 2) pa_nil))))
          (pss_one (ps_raise rfl (takes_of rfl rfl rfl rfl) (pmk_oex T.oc T.iC T.tI GI hr bI .nil pass0 (by rfl) gE (pa_cons (pv 1) pa_nil)))) pss_nil)))
      (pss_one (ps_ret (pe_join pe_str (pe_lc (own := [("octet", 2)]) (g := gName 2) (tt := tYes) rfl scDec.nd (pi_list (pv 0))
        (blkOk_by (N := ["octets", "index", "octet"]) (sc := defScope sDec) (by decide +kernel))
        (fun _ _ _ _ _ => pg_name (i := 2) scDec.nd rfl (Or.inl rfl)) (fun _ _ _ _ _ => pts_nil)
        (fun _ _ _ _ _ => pe_call GH hr1 (by rfl) gH FH.kp bH .nil pass0 (pa_cons (pv 2) pa_nil)))))), ?_⟩
    refine ⟨.ref a, rfl, a, os.map V.int, rfl, hS, ?_⟩
    refine for_it (walk_enum (xs := os.map V.int)) (fun i σ H3 => ∃ y1 y2, σ = [some (.ref a), y1, y2] ∧ Same H H3 ∧ bad1 (os.take i) = none) ⟨_, _, rfl, Same.refl _, rfl⟩ (fun i σ H3 hi => ?_) ?_ ?_
    · rintro ⟨y1, y2, rfl, sm, _⟩
      exact sm.seq hS
    · rintro i x σ H3 H' hi ⟨y1, y2, rfl, sm, hb⟩ hY
      have hi' : i < os.length := by
        rw [List.length_map] at hi
        exact hi
      have ei : (os.map V.int)[i]? = some (.int os[i]) := by
        rw [List.getElem?_map, List.getElem?_eq_getElem hi']
        rfl
      obtain ⟨Tp, x1, x2, rfl, nT, rfl, f1, f2⟩ := hY
      have e1 : x1 = .int (i : Int) := (Option.some.inj f1).symm
      have e2 : x2 = .int os[i] := Option.some.inj (f2.symm.trans ei)
      subst e1 e2
      have sm' := sm.trans (same_new (o := .tup [V.int (i : Int), V.int os[i]]) nT)
      have bt := bad1_take (List.getElem?_eq_getElem hi') hb
      refine ⟨Tp, _, rfl, .inl (.inl upd_same), rfl, _, _, rfl, _, _, rfl, rfl, ?_⟩
      refine ⟨_, rfl, os[i], rfl, okI os[i], rfl, ?_⟩
      by_cases ho : okI os[i] = true
      · rw [if_pos ho] at bt
        exact iteBF (by rw [ho]; rfl) ⟨_, _, rfl, sm', bt⟩
      · rw [if_neg ho] at bt
        refine iteB (by rw [Bool.eq_false_iff.mpr ho]; rfl) ?_
        refine ⟨_, rfl, (by show 1 ≤ 1000; decide), fun e ne => ⟨e, C, "InvalidText", _, rfl, T, upd_same, fun dx ndx nde => ⟨rfl, dx, [("name", .str "InvalidText"), ("place", .int (i : Int))], ?_, upd_same, ?_, ?_⟩⟩⟩
        · rw [upd_ne nde.symm, upd_same]
        · rw [upd_ne nde] at ndx
          exact ndx
        · have ndx' : (upd H3 Tp (.tup [V.int (i : Int), V.int os[i]])) dx = none := by
            rw [upd_ne nde] at ndx
            exact ndx
          refine qe i (bad1_stop bt) _ dx (fun b o hb' => ?_) (sm'.free ndx') upd_same
          have h1 := sm' b o hb'
          have n1 : b ≠ e := ne_of_none h1 ne
          have n2 : b ≠ dx := ne_of_none h1 ndx'
          rw [upd_ne n2, del_ne n1, upd_ne n2, upd_ne n1, upd_ne n2, upd_ne n1]
          exact h1
    · rintro σ H3 ⟨y1, y2, rfl, sm, hb⟩
      rw [List.length_map, List.take_length] at hb
      have hok := bad1_none hb
      refine ⟨⟨_, rfl⟩, .ref a, rfl, a, rfl, ⟨_, sm.seq hS⟩, fun D nD => ?_⟩
      refine lc_list (xs := os.map V.int) (fun i H4 => Same H3 H4 ∧ H4 D = some (.lst (((nats os).take i).map fun c => V.str (sg c)))) ⟨same_new nD, upd_same⟩ (fun i H4 _ p => p.1.seq (sm.seq hS)) ?_ ?_
      · rintro i x H4 hx ⟨s4, hD⟩
        have hi : i < os.length := by
          have := (List.getElem?_eq_some_iff.mp hx).1
          rwa [List.length_map] at this
        rw [List.getElem?_map, List.getElem?_eq_getElem hi] at hx
        have ex : x = .int os[i] := (Option.some.inj hx).symm
        subst ex
        obtain ⟨c, ec, oc⟩ := okI_c (hok _ (List.getElem_mem hi))
        refine ⟨rfl, ?_⟩
        dsimp only [tYes]
        rw [if_pos rfl]
        refine ⟨_, rfl, c, by rw [ec]; rfl, oc, _, hD, ?_, same_put s4 nD, ?_⟩
        · rw [List.length_map, List.length_take]
          exact small1000 (by omega)
        · have ec2 : (nats os)[i]? = some c := by
            unfold nats
            rw [List.getElem?_map, List.getElem?_eq_getElem hi, ec]
            rfl
          rw [upd_same, List.take_add_one, ec2, List.map_append]
          rfl
      · rintro H4 ⟨s4, hD⟩
        have hn : (nats os).length = os.length := List.length_map ..
        rw [List.length_map, ← hn, List.take_length] at hD
        have hD2 : H4 D = some (.lst (((nats os).map sg).map V.str)) := by
          rw [List.map_map]
          exact hD
        refine ⟨("" : Str), D, (nats os).map sg, rfl, rfl, .inl (.inl (.inl hD2)), ?_, ?_⟩
        · rw [sg_sum]
          have e0 : ("" : Str).length = 0 := by decide +kernel
          rw [e0, Nat.mul_zero, hn]
          omega
        · rw [join_txt]
          exact q hb H4 (sm.trans s4)
end
end K2

namespace K2
open PySem L2
/-! the alphabet's dict -/
abbrev Pr := Key × V
def pr (c : Nat) : Pr := (Sum.inr (sg c), V.int (c : Int))
theorem sg_inj {a b : Nat} (h : sg a = sg b) : a = b := by
  unfold sg at h
  injection h with h
  have := congrArg (fun x : Array Nat => x[0]?) h
  simpa using this
theorem val_pr : ∀ {cs : List Nat} {c : Nat}, valV (cs.map pr) (Sum.inr (sg c)) = if c ∈ cs then some (V.int (c : Int)) else none
  | [], c => rfl
  | d :: r, c => by
    have ih := val_pr (cs := r) (c := c)
    rw [List.map_cons]
    by_cases e : d = c
    · subst e
      rw [if_pos (List.mem_cons_self ..)]
      exact valV_pos rfl
    · have ne : ¬ (pr d).1 = (Sum.inr (sg c) : Key) := fun h => e (sg_inj (Sum.inr.inj h))
      rw [valV_neg ne, ih]
      have : (c ∈ d :: r) ↔ c ∈ r := by
        rw [List.mem_cons]
        constructor
        · rintro (h | h)
          · exact absurd h.symm e
          · exact h
        · exact .inr
      by_cases h : c ∈ r
      · rw [if_pos h, if_pos (this.mpr h)]
      · rw [if_neg h, if_neg fun z => h (this.mp z)]
theorem put_pr {cs : List Nat} {c : Nat} (h : c ∉ cs) : putK (cs.map pr) (Sum.inr (sg c)) (V.int (c : Int)) = (cs ++ [c]).map pr := by
  rw [putK_new _ (by rw [val_pr, if_neg h]), List.map_append]
  rfl
def cs1 (i : Nat) : List Nat := 10 :: (List.range i).map (32 + ·)
def cs2 (i : Nat) : List Nat := cs1 5 ++ (List.range i).map (38 + ·)
def CS : List Nat := cs2 89
theorem cs1_succ (i : Nat) : cs1 (i + 1) = cs1 i ++ [32 + i] := by
  unfold cs1
  rw [List.range_succ, List.map_append]
  rfl
theorem cs2_succ (i : Nat) : cs2 (i + 1) = cs2 i ++ [38 + i] := by
  unfold cs2
  rw [List.range_succ, List.map_append, ← List.append_assoc]
  rfl
theorem cs1_not (i : Nat) : 32 + i ∉ cs1 i := by
  unfold cs1
  intro h
  rcases List.mem_cons.mp h with h | h
  · omega
  · obtain ⟨j, hj, e⟩ := List.mem_map.mp h
    have := List.mem_range.mp hj
    omega
theorem cs2_not (i : Nat) : 38 + i ∉ cs2 i := by
  unfold cs2 cs1
  intro h
  rcases List.mem_append.mp h with h | h
  · rcases List.mem_cons.mp h with h | h
    · omega
    · obtain ⟨j, hj, e⟩ := List.mem_map.mp h
      have := List.mem_range.mp hj
      omega
  · obtain ⟨j, hj, e⟩ := List.mem_map.mp h
    have := List.mem_range.mp hj
    omega
theorem cs2_len (i : Nat) : (cs2 i).length = 6 + i := by
  unfold cs2 cs1
  rw [List.length_append, List.length_cons, List.length_map, List.length_map, List.length_range, List.length_range]
theorem CS_len : CS.length = 95 := cs2_len 89
theorem CS_ok : ∀ c ∈ CS, okc c = true := by decide +kernel
theorem CS_in : ∀ c, c < 127 → okc c = true → c ∈ CS := by decide +kernel
theorem five_at : ∀ j, j < 5 → FIVE.cps.toList[j]? = some (32 + j) := by decide +kernel
theorem later_at : ∀ j, j < 89 → LATER.cps.toList[j]? = some (38 + j) := by decide +kernel
section
variable {P : Program} {w : World} {K : PySem.W.Frag} {mg : Str → Option Value} {base : Heap}
/-! ### _law_is_integer, _law_same -/
def spIsInt : Sp := fun vs H Q _ => ∃ n : Int, vs = [.int n] ∧ Q (.bl true) H
theorem scIsInt : FnScope ["actual"] ["actual"] (defScope sIsInt) := ⟨rfl, rfl, rfl, by decide +kernel, rfl, by decide +kernel, by decide +kernel⟩
theorem ok_isInt {f : Addr} {fd : FuncData} (F : Fun K "_law_is_integer" "_law_is_integer" sIsInt f fd) (N : Nm mg) : FnOk P w K mg base CX0 1 f fd ["actual"] spIsInt := by
  refine F.ok scIsInt (fun vs H Q E h => ?_) (fun cdv A outer s H vs Q E hr h => ?_)
  · obtain ⟨n, rfl, _⟩ := h
    rfl
  · obtain ⟨n, rfl, q⟩ := h
    refine ⟨_, pss_one (ps_ret (pe_and (pe_callB call_isi (by rfl) N.isinstance (by decide +kernel) (pa_cons (pv 0) (pa_cons (pe_bltn (v := .ty "int") (by rfl) N.int (by decide +kernel) rfl) pa_nil)))
          (pe_one (pe_not (pe_callB call_isi (by rfl) N.isinstance (by decide +kernel) (pa_cons (pv 0) (pa_cons (pe_bltn (v := .ty "bool") (by rfl) N.bool (by decide +kernel) rfl) pa_nil))))))), ?_⟩
    refine ⟨_, rfl, _, .ty "int", .type "int", .type "int", true, rfl, .ty _, .base (.int n), kit_ty (by decide +kernel), _, rfl, iteT ?_⟩
    exact ⟨_, rfl, _, .ty "bool", .type "int", .type "bool", false, rfl, .ty _, .base (.int n), kit_ty (by decide +kernel), _, rfl, q⟩
def spSame (K : PySem.W.Frag) : Sp := fun vs H Q _ => ∃ (a b : Addr) (xs : List Int), vs = [.ref a, .ref b] ∧ H a = some (.lst (xs.map V.int)) ∧ SqL K H b (xs.map V.int) ∧ xs.length ≤ 1000 ∧ Q (.bl true) H
theorem scSame : FnScope ["actual", "expected", "k"] ["actual", "expected"] (defScope sSame) := ⟨rfl, rfl, rfl, by decide +kernel, rfl, by decide +kernel, by decide +kernel⟩
theorem ok_same {f fI : Addr} {fd fdI : FuncData} (F : Fun K "_law_same" "_law_same" sSame f fd) (N : Nm mg) (FI : Fun K "_law_is_integer" "_law_is_integer" sIsInt fI fdI) (bI : Binds K fdI ["actual"] []) (gI : mg "_law_is_integer" = some (.ref fI)) :
    FnOk P w K mg base CX0 2 f fd ["actual", "expected"] (spSame K) := by
  have GI : FnOk P w K mg base CX0 1 fI fdI ["actual"] spIsInt := ok_isInt FI N
  refine F.ok scSame (fun vs H Q E h => ?_) (fun cdv A outer s H vs Q E hr h => ?_)
  · obtain ⟨a, b, xs, rfl, _⟩ := h
    rfl
  · obtain ⟨a, b, xs, rfl, ha, hb, hl, q⟩ := h
    have sa : SqL K H a (xs.map V.int) := .inl (.inl ha)
    refine ⟨_, pss_cons (ps_if (PW.pt (pw_or (pt_not (pt_val (pe_callB call_isi (by rfl) N.isinstance (by decide +kernel) (pa_cons (pv 0) (pa_cons (pe_bltn (v := .ty "list") (by rfl) N.list (by decide +kernel) rfl) pa_nil)))))
          (pw_or1 (pt_cmpR op_ne (pe_callB call_len_seq (by rfl) N.len PySem.boot_len (pa_cons (pv 0) pa_nil)) (pe_callB call_len_seq (by rfl) N.len PySem.boot_len (pa_cons (pv 1) pa_nil)) (nomark _))))) (pss_one (ps_ret pe_bl)) pss_nil)
      (pss_cons (ps_for PassesOwn.never rfl (pi_range1 (by rfl) N.range (pa_cons (pe_callB call_len_seq (by rfl) N.len PySem.boot_len (pa_cons (pv 1) pa_nil)) pa_nil)) (pg_name (i := 2) scSame.nd rfl (.inl rfl))
        (pss_one (ps_if (PW.pt (pw_or (pt_not (pt_val (pe_call GI hr (by rfl) gI FI.kp bI .nil pass0 (pa_cons (pe_ix ix_list (pv 0) (pv 2) (fun _ _ => rfl)) pa_nil))))
          (pw_or1 (pt_cmpR op_ne (pe_ix ix_list (pv 0) (pv 2) (fun _ _ => rfl)) (pe_ix ix_list (pv 1) (pv 2) (fun _ _ => rfl)) (nomark _))))) (pss_one (ps_ret pe_bl)) pss_nil)))
      (pss_one (ps_ret pe_bl))), ?_⟩
    refine ⟨_, rfl, _, .ty "list", .type "list", .type "list", true, rfl, .ty _, .base (.lst ha), kit_ty (by decide +kernel), true, rfl, iteF ?_⟩
    refine ⟨_, rfl, a, _, rfl, .inl sa, _, rfl, b, _, rfl, .inl hb, rfl, _, rfl, iteBF (by rw [decide_eq_true rfl]; rfl) ?_⟩
    refine ⟨_, rfl, b, _, rfl, .inl hb, _, rfl, by omega, by rw [List.length_map]; omega, ?_⟩
    rw [List.length_map]
    refine for_range (lo := 0) (n := ((xs.length : Int)).toNat) (fun i σ H3 => ∃ y2, σ = [some (.ref a), some (.ref b), y2] ∧ H3 = H) ⟨_, rfl, rfl⟩ ?_ ?_
    · rintro i σ H3 hi ⟨y2, rfl, rfl⟩
      have hi' : i < xs.length := by omega
      have ei : atI (xs.map V.int) (0 + (i : Int)) = some (.int xs[i]) := at_of (Int.zero_add _) (by rw [List.getElem?_map, List.getElem?_eq_getElem hi']; rfl)
      refine ⟨_, rfl, _, rfl, a, _, _, _, rfl, rfl, sa, ei, xs[i], rfl, true, rfl, iteF ?_⟩
      exact ⟨_, rfl, _, rfl, a, _, _, _, rfl, rfl, sa, ei, _, rfl, _, rfl, b, _, _, _, rfl, rfl, hb, ei, rfl, _, rfl, iteBF (by rw [decide_eq_true rfl]; rfl) ⟨_, rfl, rfl⟩⟩
    · rintro σ H3 ⟨y2, rfl, rfl⟩
      exact q
/-! ### _law_alphabet -/
def spAlph : Sp := fun vs H Q _ => vs = [] ∧ ∀ H' p, Same H H' → H p = none → H' p = some (.dK (CS.map pr)) → Q (.ref p) H'
theorem scAlph : FnScope ["signs", "later", "codes", "k"] [] (defScope sAlph) := ⟨rfl, rfl, rfl, by decide +kernel, rfl, by decide +kernel, by decide +kernel⟩
theorem ok_alph {f : Addr} {fd : FuncData} (F : Fun K "_law_alphabet" "_law_alphabet" sAlph f fd) (N : Nm mg) : FnOk P w K mg base CX0 1 f fd [] spAlph := by
  refine F.ok scAlph (fun vs H Q E h => ?_) (fun cdv A outer s H vs Q E hr h => ?_)
  · obtain ⟨rfl, _⟩ := h
    rfl
  · obtain ⟨rfl, q⟩ := h
    have hu := hu_of hr
    refine ⟨_, pss_cons (ps_set (i := 0) scAlph.nd rfl (.inl rfl) pe_str) (pss_cons (ps_set (i := 1) scAlph.nd rfl (.inl rfl) pe_str)
      (pss_cons (ps_set (i := 2) scAlph.nd rfl (.inl rfl) (pe_disp (pps_cons pe_str pe_int pps_nil) (by rfl) (by rfl) (fun z => by cases z) (by decide)))
      (pss_cons (ps_for PassesOwn.never rfl (pi_range1 (by rfl) N.range (pa_cons (pe_callB call_len_str (by rfl) N.len PySem.boot_len (pa_cons (pv 0) pa_nil)) pa_nil)) (pg_name (i := 3) scAlph.nd rfl (.inl rfl))
        (pss_one (ps_dput hu (pv 2) (pe_ix ix_str (pv 0) (pv 3) (fun _ _ => rfl)) (pe_op op_add pe_int (pv 3)) rfl)))
      (pss_cons (ps_for PassesOwn.never rfl (pi_range1 (by rfl) N.range (pa_cons (pe_callB call_len_str (by rfl) N.len PySem.boot_len (pa_cons (pv 1) pa_nil)) pa_nil)) (pg_name (i := 3) scAlph.nd rfl (.inl rfl))
        (pss_one (ps_dput hu (pv 2) (pe_ix ix_str (pv 1) (pv 3) (fun _ _ => rfl)) (pe_op op_add pe_int (pv 3)) rfl)))
      (pss_one (ps_ret (pv 2))))))), ?_⟩
    intro d nd
    refine ⟨upd_same, [(Sum.inr ("\n" : Str), .int 10)], rfl, (by show 1 ≤ 15; decide), ?_⟩
    have l5 : FIVE.length = 5 := by decide +kernel
    have l89 : LATER.length = 89 := by decide +kernel
    refine ⟨_, rfl, FIVE, rfl, (by rw [l5]; decide), (FIVE.length : Int), rfl, (by rw [l5]; decide), (by rw [l5]; decide), ?_⟩
    rw [l5]
    refine for_range (lo := 0) (n := ((5 : Nat) : Int).toNat) (fun i σ H3 => ∃ y3, σ = [some (.str FIVE), some (.str LATER), some (.ref d), y3] ∧ Same H H3 ∧ H3 d = some (.dK ((cs1 i).map pr))) ?_ ?_ ?_
    · refine ⟨none, rfl, fun b o e => ?_, ?_⟩
      · have hb : b ≠ d := ne_of_none e nd
        rw [upd_ne hb, upd_ne hb]
        exact e
      · rw [upd_same]
        show some (HO.dK (putK [] (Sum.inr ("\n" : Str)) (.int 10))) = _
        rw [nl_sg]
        rfl
    · rintro i σ H3 hi ⟨y3, rfl, sm, hd⟩
      have hi' : i < 5 := by omega
      have hat : atI FIVE.cps.toList (0 + (i : Int)) = some (32 + i) := by
        rw [Int.zero_add]
        exact atI_nat (five_at i hi')
      refine ⟨_, rfl, 32, _, rfl, rfl, _, rfl, _, rfl, _, rfl, FIVE, _, _, rfl, rfl, (by rw [l5]; decide), hat, d, _, rfl, DPut.k (k := Sum.inr (sg (32 + i))) hd ?_, ?_⟩
      · rw [List.length_map]
        unfold cs1
        rw [List.length_cons, List.length_map, List.length_range]
        exact small1000 (by omega)
      · have e : (32 : Int) + (0 + (i : Int)) = ((32 + i : Nat) : Int) := by omega
        refine ⟨_, rfl, same_put sm nd, ?_⟩
        rw [upd_same]
        show some (HO.dK (putK ((cs1 i).map pr) (Sum.inr (sg (32 + i))) (.int ((32 : Int) + (0 + (i : Int)))))) = _
        rw [e, put_pr (cs1_not i), cs1_succ]
    · rintro σ H3 ⟨y3, rfl, sm, hd⟩
      have hd : H3 d = some (.dK ((cs2 0).map pr)) := by
        rw [hd]
        rfl
      refine ⟨_, rfl, LATER, rfl, (by rw [l89]; decide), (LATER.length : Int), rfl, (by rw [l89]; decide), (by rw [l89]; decide), ?_⟩
      rw [l89]
      refine for_range (lo := 0) (n := ((89 : Nat) : Int).toNat) (fun i σ H3 => ∃ y3, σ = [some (.str FIVE), some (.str LATER), some (.ref d), y3] ∧ Same H H3 ∧ H3 d = some (.dK ((cs2 i).map pr))) ⟨_, rfl, sm, hd⟩ ?_ ?_
      · rintro i σ H3 hi ⟨y3, rfl, sm, hd⟩
        have hi' : i < 89 := by omega
        have hat : atI LATER.cps.toList (0 + (i : Int)) = some (38 + i) := by
          rw [Int.zero_add]
          exact atI_nat (later_at i hi')
        refine ⟨_, rfl, 38, _, rfl, rfl, _, rfl, _, rfl, _, rfl, LATER, _, _, rfl, rfl, (by rw [l89]; decide), hat, d, _, rfl, DPut.k (k := Sum.inr (sg (38 + i))) hd ?_, ?_⟩
        · rw [List.length_map, cs2_len]
          exact small1000 (by omega)
        · have e : (38 : Int) + (0 + (i : Int)) = ((38 + i : Nat) : Int) := by omega
          refine ⟨_, rfl, same_put sm nd, ?_⟩
          rw [upd_same]
          show some (HO.dK (putK ((cs2 i).map pr) (Sum.inr (sg (38 + i))) (.int ((38 : Int) + (0 + (i : Int)))))) = _
          rw [e, put_pr (cs2_not i), cs2_succ]
      · rintro σ H3 ⟨y3, rfl, sm, hd⟩
        exact ⟨_, rfl, q H3 d sm nd hd⟩
/-! ### _law_told -/
structure ToldT (K : PySem.W.Frag) (mg : Str → Option Value) (C CM CC : Addr) : Prop where
  gC : mg "InvalidText" = some (.ref C)
  gM : mg "ManysidesError" = some (.ref CM)
  gX : mg "InvalidCell" = some (.ref CC)
  ex : PySem.W.exmOne K (.ref C) (.ref CM) = some true
  k1 : PySem.W.kitOne K (.ref C) (.ref C) = some true
  k2 : PySem.W.kitOne K (.ref C) (.ref CC) = some false
  k3 : PySem.W.kitOne K (.ref C) (.type "ValueError") = some true
def spTold (K : PySem.W.Frag) : Sp := fun vs H Q _ => ∃ (a : Addr) (os : List Int), vs = [.ref a] ∧ SqL K H a (os.map V.int) ∧ os.length ≤ 1000 ∧
  (bad1 os = none → ∀ H', Same H H' → Q (.str (txt (nats os))) H') ∧
  (∀ i, bad1 os = some i → ∀ H' p, Same H H' → H p = none → H' p = some (.tup [.str "InvalidText", .int (i : Int)]) → Q (.ref p) H')
theorem scTold : FnScope ["octets", "error"] ["octets"] (defScope sTold) := ⟨rfl, rfl, rfl, by decide +kernel, rfl, by decide +kernel, by decide +kernel⟩
theorem ok_told {f fD C CM CC fI : Addr} {fd fdD : FuncData} (F : Fun K "_law_told" "_law_told" sTold f fd) (N : Nm mg) (kD : PySem.W.keepIn K (.ref fD) = true) (bD : Binds K fdD ["octets"] []) (gD : mg "decode_text" = some (.ref fD))
    (GD : FnOk P w K mg base (L2.CX P w) 3 fD fdD ["octets"] (spDec K C)) (E : ErrC K C fI "InvalidText") (T : ToldT K mg C CM CC) : FnOk P w K mg base CX0 4 f fd ["octets"] (spTold K) := by
  refine F.ok scTold (fun vs H Q E h => ?_) (fun cdv A outer s H vs Q Ex hr h => ?_)
  · obtain ⟨a, os, rfl, _⟩ := h
    rfl
  · obtain ⟨a, os, rfl, hS, hl, q, qe⟩ := h
    refine ⟨_, pss_one (ps_try_as (i := 1) (Wout := fun _ _ _ _ => False) rfl rfl scTold.nd rfl rfl ⟨rfl, by decide, Or.inl T.gM⟩ takes0
      (fun W pn xe tk _ => pss_one (ps_ret (pe_callS GD hr (by rfl) gD kD bD (fun σ => passAt tk σ) (pa_cons (pv 0) pa_nil))))
      (fun a oe cls d pn hz hf => pss_cons (ps_if (PW.pt (pw_or (pt_not (pt_val (pe_callB (call_isE2 E.ec hz hf) (by rfl) N.isinstance (by decide +kernel) (pa_cons (pv 1) (pa_cons (pe_glob (v := .ref C) (by rfl) T.gC rfl) pa_nil)))))
          (pw_or (pt_val (pe_callB (call_isE2 E.ec hz hf) (by rfl) N.isinstance (by decide +kernel) (pa_cons (pv 1) (pa_cons (pe_glob (v := .ref CC) (by rfl) T.gX rfl) pa_nil))))
            (pw_or1 (pt_not (pt_val (pe_callB (call_isE2 E.ec hz hf) (by rfl) N.isinstance (by decide +kernel) (pa_cons (pv 1) (pa_cons (pe_bltn (v := .ty "ValueError") (by rfl) N.ve (by decide +kernel) rfl) pa_nil)))))))))
          (pss_one (ps_ret pe_non)) pss_nil)
        (pss_one (ps_ret (pe_tup (pa_cons (pe_xf E.xf E.noN hz hf (pv 1)) (pa_cons (pe_xf E.xf E.noP hz hf (pv 1)) pa_nil))))))), ?_⟩
    refine ⟨_, rfl, a, os, rfl, hS, hl, q, fun i hb H' d sm nd hd => ?_⟩
    refine ⟨true, T.ex, fun _ e0 ne => ?_, fun z => Bool.noConfusion z⟩
    have ref1 : ∀ (D : Addr) (u : Value), RelV (.ref D) u → u = .ref D := fun D u h => h
    refine ⟨_, rfl, _, .ref C, true, d, _, rfl, rfl, rfl, hd, ref1 C, T.k1, true, rfl, iteF ?_⟩
    refine ⟨_, rfl, _, .ref CC, false, d, _, rfl, rfl, rfl, hd, ref1 CC, T.k2, false, rfl, iteF ?_⟩
    refine ⟨_, rfl, _, .type "ValueError", true, d, _, rfl, rfl, rfl, hd, (fun u h => h), T.k3, true, rfl, iteF ?_⟩
    refine ⟨_, rfl, rfl, rfl, d, _, .str "InvalidText", rfl, hd, (by rw [lookup_put, if_pos rfl]), _, rfl, rfl, rfl, d, _, .int (i : Int), rfl, hd, (by rw [lookup_put, if_neg (by decide +kernel), lookup_put, if_pos rfl]), (by show 2 ≤ sizeLine; decide), fun p np => ?_⟩
    · exact qe i hb _ p (same_put sm (sm.free np)) (sm.free np) upd_same
end
end K2

namespace K2
open PySem L2
theorem depth_ints : ∀ os : List Int, PyData.depthAll (os.map PyData.int) ≤ 1
  | [] => by simp [PyData.depthAll]
  | n :: r => by
    have := depth_ints r
    simp [PyData.depthAll, PyData.depth] at this ⊢
    omega
theorem lay_ints : ∀ os : List Int, PyData.canLayAll0 (os.map PyData.int) = true
  | [] => by simp [PyData.canLayAll0]
  | n :: r => by
    have := lay_ints r
    simp [PyData.canLayAll0, PyData.canLay0] at this ⊢
    exact this
theorem shaped_ints (os : List Int) : SeqAt.shaped (.list (os.map PyData.int)) = true := by
  have h1 := depth_ints os
  have h2 : PyData.depth (.list (os.map PyData.int)) ≤ 64 := by
    simp only [PyData.depth]
    omega
  show (PyData.canLay0 (.list (os.map PyData.int)) && decide (PyData.depth (.list (os.map PyData.int)) ≤ 64)) = true
  rw [Bool.and_eq_true]
  exact ⟨by simp only [PyData.canLay0]; exact lay_ints os, decide_eq_true h2⟩
theorem dp_ints {K : PySem.W.Frag} {H : Hp} : ∀ os : List Int, DpAll K H (os.map V.int) (os.map PyData.int)
  | [] => .nil
  | n :: r => .cons (.int n) (dp_ints r)
theorem eqv_ints (os : List Int) : PyData.eqv (.list (os.map PyData.int)) (.list (os.map PyData.int)) = true :=
  SeqAt.eqv_refl _ (by simp only [PyData.canLay0]; exact lay_ints os)
theorem cut_map (ms : List Int) (hi : Option Int) : ∃ tk : List Int, cutV (ms.map V.int) none hi = tk.map V.int ∧ tk.length ≤ ms.length := by
  unfold cutV
  refine ⟨(ms.drop (HT.sIx (ms.map V.int).length 0 none)).take (HT.sIx (ms.map V.int).length (ms.map V.int).length hi - HT.sIx (ms.map V.int).length 0 none), ?_, ?_⟩
  · rw [List.map_take, List.map_drop]
  · rw [List.length_take, List.length_drop]
    omega
theorem ic_map (cs : List Nat) : cs.map ic = (cs.map fun (c : Nat) => (c : Int)).map V.int := by
  rw [List.map_map]
  rfl
theorem nats_ic (cs : List Nat) : nats (cs.map fun (c : Nat) => (c : Int)) = cs := by
  unfold nats
  rw [List.map_map]
  induction cs with
  | nil => rfl
  | cons c r ih =>
    rw [List.map_cons, ih]
    show Int.toNat (c : Int) :: r = _
    rw [Int.toNat_natCast]
theorem bad1_ic {cs : List Nat} (h : ∀ c ∈ cs, okc c = true) : bad1 (cs.map fun (c : Nat) => (c : Int)) = none := bad1_ok fun n hn => by
  obtain ⟨c, hc, rfl⟩ := List.mem_map.mp hn
  exact okI_of (h c hc)
theorem inV_CS (n : Int) : inV (.int n) (CS.map ic) = okI n := by
  unfold inV
  by_cases h : okI n = true
  · rw [h]
    obtain ⟨c, e, oc⟩ := okI_c h
    rw [List.any_eq_true]
    refine ⟨ic c, List.mem_map.mpr ⟨c, CS_in c (okc_lt oc) oc, rfl⟩, ?_⟩
    show ((c : Int) == n) = true
    rw [e]
    exact beq_self_eq_true _
  · rw [Bool.eq_false_iff.mpr h, List.any_eq_false]
    intro x hx
    obtain ⟨c, hc, rfl⟩ := List.mem_map.mp hx
    intro z
    have z : ((c : Int) == n) = true := z
    have e : (c : Int) = n := beq_iff_eq.mp z
    exact h (e ▸ okI_of (CS_ok c hc))
theorem first_ix : ∀ {l : List Nat} {c : Nat}, c ∈ l → ∃ j : Nat, l[j]? = some c ∧ ∀ (m x : Nat), m < j → l[m]? = some x → x ≠ c
  | [], _, h => (List.not_mem_nil h).elim
  | a :: r, c, h => by
    by_cases e : a = c
    · exact ⟨0, by rw [e]; rfl, fun m x hm => absurd hm (Nat.not_lt_zero _)⟩
    · rcases List.mem_cons.mp h with h | h
      · exact absurd h.symm e
      · obtain ⟨j, h1, h2⟩ := first_ix h
        refine ⟨j + 1, by simpa using h1, fun m x hm hx => ?_⟩
        cases m with
        | zero =>
          have : a = x := by simpa using hx
          rw [← this]
          exact e
        | succ m => exact h2 m x (by omega) (by simpa using hx)
theorem flat_CS : (CS.map ic).all flatV = true := by
  rw [List.all_eq_true]
  intro x hx
  obtain ⟨c, _, rfl⟩ := List.mem_map.mp hx
  rfl
theorem vals_CS : (CS.map pr).map (·.2) = CS.map ic := by
  rw [List.map_map]
  rfl
theorem keys_CS : ((CS.map pr).map fun kv => kV kv.1) = CS.map fun c => V.str (sg c) := by
  rw [List.map_map]
  rfl
theorem at_CS {n : Int} (h0 : 0 ≤ n) (h1 : n < 95) : ∃ c ∈ CS, atI (CS.map fun c => V.str (sg c)) n = some (.str (sg c)) := by
  obtain ⟨j, rfl⟩ : ∃ j : Nat, n = (j : Int) := ⟨_, (Int.toNat_of_nonneg h0).symm⟩
  have hj : j < CS.length := by
    rw [CS_len]
    omega
  refine ⟨CS[j], List.getElem_mem hj, atI_nat ?_⟩
  rw [List.getElem?_map, List.getElem?_eq_getElem hj]
  rfl
theorem len_S : ((CS.map fun c => V.str (sg c)).length : Int) = 95 := by
  rw [List.length_map, CS_len]
  rfl
theorem get_ms {ms : List Int} (h : ms.length = 25) (j : Nat) (hj : j < 25) : ∃ n, atI (ms.map V.int) (j : Int) = some (.int n) := by
  refine ⟨ms[j], atI_nat ?_⟩
  rw [List.getElem?_map, List.getElem?_eq_getElem (by omega)]
  rfl
theorem cut12 (ns : List Int) : cutV (ns.map V.int) none (some 12) = (ns.take 12).map V.int := by
  unfold cutV
  rw [HT.sIx_none, show HT.sIx (ns.map V.int).length (ns.map V.int).length (some 12) = min 12 (ns.map V.int).length from HT.sIx_nat _ _ 12, List.drop_zero, Nat.sub_zero, List.map_take]
  rw [Nat.min_def]
  split
  · rfl
  · rw [List.take_length, List.take_of_length_le (by omega)]
theorem txt_len (cs : List Nat) : (txt cs).length = cs.length := by simp [txt, Str.length]
section
variable {X : Cx} {o e : Expr} {es : List Expr} {to : TE} {t : TA} {name : Str} {apos cpos : Pos} {T id : String} {r : V → List V → Hp → VK → Prop}
theorem pe_bmK (K : PySem.W.Frag) (hK : X.K = K) (pa : PlainAttrs T) (slot : Slot T name id) (hty : typeOf (.builtin id) = pure (.type "method_descriptor")) (hm : MtR X id r) (ho : PE X o to) (ha : PA X (e :: es) t)
    (hbase : attributeBase o name X.env (eval o X.env) = eval o X.env := by rfl)
    (hfew : ((backTo cpos (starEach (e :: es) X.env)).all (fun x => !x.1) && (backToKw cpos (keywordEach [] X.env)).all (fun x => x.1.isSome)
      && decide ((e :: es).length + ([] : List Keyword).length + (if ([] : List Keyword).isEmpty then 0 else 1) < 30)) = true := by rfl)
    (hline : (apos.endLine == cpos.line) = true := by rfl) (hs : starEach (e :: es) X.env = (false, eval e X.env) :: starEach es X.env := by rfl) (hplain : (backTo cpos (starEach es X.env)).any (·.1) = false := by rfl) :
    PE X (.Call (.Attribute o name apos) (e :: es) [] cpos) (tBM K T r to t) := by
  subst hK
  exact pe_bm pa slot hty hm ho ha hbase hfew hline hs hplain
theorem mt_indexK (K : PySem.W.Frag) (hK : X.K = K) : MtR X "list.index" (rIndex K) := by
  subst hK
  exact mt_index
theorem call_len_seqK (K : PySem.W.Frag) (hK : X.K = K) : CallR X (.builtin "len") (fun xs H Q => ∃ p ys, xs = [.ref p] ∧ (SqL K H p ys ∨ SqT K H p ys) ∧ Q (.int ys.length) H) := by
  subst hK
  exact call_len_seq
theorem ix_listK (K : PySem.W.Frag) (hK : X.K = K) : IxR X (rIxL K) := by
  subst hK
  exact ix_list
end
theorem int_at {ms : List Int} {xs : List V} {n : Int} (e : xs = ms.map V.int) (h0 : 0 ≤ n) (h1 : n < ms.length) : ∃ m, atI xs n = some (.int m) := by
  obtain ⟨j, rfl⟩ : ∃ j : Nat, n = (j : Int) := ⟨_, (Int.toNat_of_nonneg h0).symm⟩
  have hj : j < ms.length := by omega
  refine ⟨ms[j], atI_nat ?_⟩
  rw [e, List.getElem?_map, List.getElem?_eq_getElem hj]
  rfl
theorem dget_CS {H : Hp} {cA : Addr} {c : Nat} (hc : H cA = some (.dK (CS.map pr))) (h : c ∈ CS) : DGet H cA (.str (sg c)) (some (ic c)) := by
  have := DGet.k (k := (Sum.inr (sg c) : Key)) hc
  rwa [val_pr, if_pos h] at this
theorem bad1_keep {os : List Int} {i j : Nat} (h : bad1 (os.take i) = some j) : bad1 (os.take (i + 1)) = some j := by
  refine bad1_stop (j := i) ?_
  rw [List.take_take, Nat.min_eq_left (Nat.le_succ i)]
  exact h
theorem lay_it (j : Int) : PyData.canLay0 (.tuple [.str "InvalidText", .int j]) = true := by
  have h : PyData.strOk ("InvalidText" : Str) = true := by decide +kernel
  simp only [PyData.canLay0, PyData.canLayAll0, h, Bool.and_true]
theorem shaped_it (j : Int) : SeqAt.shaped (.tuple [.str "InvalidText", .int j]) = true := by
  show (PyData.canLay0 (.tuple [.str "InvalidText", .int j]) && decide (PyData.depth (.tuple [.str "InvalidText", .int j]) ≤ 64)) = true
  rw [lay_it, Bool.true_and]
  apply decide_eq_true
  simp [PyData.depth, PyData.depthAll]
def spLaw (K : PySem.W.Frag) : Sp := fun vs H Q _ => ∃ (a : Addr) (ns : List Int), vs = [.ref a] ∧ SqL K H a (ns.map V.int) ∧ ns.length ≤ 63 ∧ ∀ H', Q (.bl true) H'
theorem scLaw : FnScope ["script", "codes", "signs", "cell", "numbers", "text", "octets", "due", "k", "handed", "number", "sign", "octet"] ["script"] (defScope sLaw) := ⟨rfl, rfl, rfl, by decide +kernel, rfl, by decide +kernel, by decide +kernel⟩
structure Fs (K : PySem.W.Frag) (mg : Str → Option Value) (fA fR fE fS fD fT fO : Addr) (dA dR dE dS dD dT dO : FuncData) : Prop where
  gA : mg "_law_alphabet" = some (.ref fA)
  gR : mg "_law_draw" = some (.ref fR)
  gE : mg "encode_text" = some (.ref fE)
  gS : mg "_law_same" = some (.ref fS)
  gD : mg "decode_text" = some (.ref fD)
  gT : mg "is_text" = some (.ref fT)
  gO : mg "_law_told" = some (.ref fO)
  bA : Binds K dA [] []
  bR : Binds K dR ["cell", "many", "bound"] []
  bE : Binds K dE ["text"] []
  bS : Binds K dS ["actual", "expected"] []
  bD : Binds K dD ["octets"] []
  bT : Binds K dT ["text"] []
  bO : Binds K dO ["octets"] []
  kA : PySem.W.keepIn K (.ref fA) = true
  kR : PySem.W.keepIn K (.ref fR) = true
  kE : PySem.W.keepIn K (.ref fE) = true
  kS : PySem.W.keepIn K (.ref fS) = true
  kD : PySem.W.keepIn K (.ref fD) = true
  kT : PySem.W.keepIn K (.ref fT) = true
  kO : PySem.W.keepIn K (.ref fO) = true
section
variable {P : Program} {w : World} {K : PySem.W.Frag} {mg : Str → Option Value} {base : Heap}
theorem ok_law {f fA fR fE fS fD fT fO C : Addr} {fd dA dR dE dS dD dT dO : FuncData} (F : Fun K "law" "law" sLaw f fd) (N : Nm mg) (T : Fs K mg fA fR fE fS fD fT fO dA dR dE dS dD dT dO)
    (GA : FnOk P w K mg base CX0 1 fA dA [] spAlph) (GR : FnOk P w K mg base CX0 1 fR dR ["cell", "many", "bound"] spDraw) (GE : FnOk P w K mg base CX0 1 fE dE ["text"] spEnc) (GS : FnOk P w K mg base CX0 2 fS dS ["actual", "expected"] (spSame K))
    (GD : FnOk P w K mg base (L2.CX P w) 3 fD dD ["octets"] (spDec K C)) (GT : FnOk P w K mg base CX0 1 fT dT ["text"] spIsText) (GO : FnOk P w K mg base CX0 4 fO dO ["octets"] (spTold K)) :
    FnOk P w K mg base CX0 5 f fd ["script"] (spLaw K) := by
  refine F.ok scLaw (fun vs H Q E h => ?_) (fun cdv A outer s H vs Q E hr h => ?_)
  · obtain ⟨a, ns, rfl, _⟩ := h
    rfl
  · obtain ⟨a, ns, rfl, hS, hlen, q⟩ := h
    have hu := hu_of hr
    have hr1 := hr.mono (j := 1) (by decide)
    have hr2 := hr.mono (j := 2) (by decide)
    have hr3 := hr.mono (j := 3) (by decide)
    refine ⟨_, pss_cons (ps_set (i := 1) scLaw.nd rfl (.inr rfl) (pe_call0 GA hr1 (by rfl) T.gA T.kA T.bA .nil pass0))
      (pss_cons (ps_set (i := 2) scLaw.nd rfl (.inr rfl) (pe_callTy (call_list_dK rfl) (by rfl) N.list (by decide +kernel) (pa_cons (pv 1) pa_nil)))
      (pss_cons (ps_for PassesOwn.never rfl (pi_list (pe_op op_cat (pe_slice sl_list (pv 0) po_none (po_some pe_int)) (pe_lst (pa_cons pe_int pa_nil)))) (pg_name (i := 3) scLaw.nd rfl (.inl rfl))
        (pss_cons (ps_set (i := 4) scLaw.nd rfl (.inl rfl) (pe_call GR hr1 (by rfl) T.gR T.kR T.bR .nil pass0 (pa_cons (pv 3) (pa_cons pe_int (pa_cons (pe_op op_shl pe_int pe_int) pa_nil)))))
        (pss_cons (ps_set (i := 5) scLaw.nd rfl (.inl rfl) (pe_join pe_str (pe_lc (own := [("number", 10)]) (g := gName 10) (tt := tYes) rfl scLaw.nd
            (pi_list (pe_slice sl_list (pv 4) po_none (po_some (pe_op op_mod (pe_ix ix_list (pv 4) pe_int (fun _ _ => rfl)) pe_int))))
            (blkOk_by (N := ["script", "codes", "signs", "cell", "numbers", "text", "octets", "due", "k", "handed", "number", "sign", "octet"]) (sc := defScope sLaw) (by decide +kernel))
            (fun _ _ _ _ _ => pg_name (i := 10) scLaw.nd rfl (Or.inl rfl)) (fun _ _ _ _ _ => pts_nil)
            (fun _ _ _ _ _ => pe_ix (ix_listK K rfl) (pv 2) (pe_op op_mod (pv 10) (pe_callB (call_len_seqK K rfl) (by rfl) N.len PySem.boot_len (pa_cons (pv 2) pa_nil))) (fun _ _ => rfl)))))
        (pss_cons (ps_set (i := 6) scLaw.nd rfl (.inl rfl) (pe_call GE hr1 (by rfl) T.gE T.kE T.bE .nil pass0 (pa_cons (pv 5) pa_nil)))
        (pss_cons (ps_if (PW.pt (pw_or (pt_not (pt_val (pe_call GS hr2 (by rfl) T.gS T.kS T.bS .nil pass0 (pa_cons (pv 6) (pa_cons (pe_lc (own := [("sign", 11)]) (g := gName 11) (tt := tYes) rfl scLaw.nd (pi_str (pv 5))
              (blkOk_by (N := ["script", "codes", "signs", "cell", "numbers", "text", "octets", "due", "k", "handed", "number", "sign", "octet"]) (sc := defScope sLaw) (by decide +kernel))
              (fun _ _ _ _ _ => pg_name (i := 11) scLaw.nd rfl (Or.inl rfl)) (fun _ _ _ _ _ => pts_nil)
              (fun _ _ _ _ _ => pe_dget hu (pv 1) (pv 11) (fun _ _ => rfl))) pa_nil)))))
            (pw_or (pt_cmpR op_ne (pe_call GD hr3 (by rfl) T.gD T.kD T.bD .nil passNo (pa_cons (pv 6) pa_nil)) (pv 5) (nomark _))
              (pw_or1 (pt_cmpR op_notBl (pe_call GT hr1 (by rfl) T.gT T.kT T.bT .nil pass0 (pa_cons (pv 5) pa_nil)) pe_bl (nomark _)))))) (pss_one (ps_ret pe_bl)) pss_nil)
        (pss_cons (ps_setLc (i := 6) (own := [("number", 10)]) (g := gName 10) (tt := tYes) rfl scLaw.nd rfl rfl (sw_true rfl rfl rfl (by decide +kernel))
            (pi_list (pe_slice sl_list (pv 4) po_none (po_some (pe_op op_mod (pe_ix ix_list (pv 4) pe_int (fun _ _ => rfl)) pe_int))))
            (blkOk_by (N := ["script", "codes", "signs", "cell", "numbers", "text", "octets", "due", "k", "handed", "number", "sign", "octet"]) (sc := defScope sLaw) (by decide +kernel))
            (fun _ _ _ _ _ => pg_name (i := 10) scLaw.nd rfl (Or.inl rfl)) (fun _ _ _ _ _ => pts_nil)
            (fun _ _ _ _ _ => pe_dget hu (pv 1) (pe_ix (ix_listK K rfl) (pv 2) (pe_op op_mod (pv 10) (pe_callB (call_len_seqK K rfl) (by rfl) N.len PySem.boot_len (pa_cons (pv 2) pa_nil))) (fun _ _ => rfl)) (fun _ _ => rfl)))
        (Evl.pss_cut (ps_if (PW.pt (pw_and (pt_cmpR op_eq (pe_op op_mod (pe_ix ix_list (pv 4) pe_int (fun _ _ => rfl)) pe_int) pe_int (nomark _)) (pw_and1 (pt_cmpR op_gt (pe_callB call_len_seq (by rfl) N.len PySem.boot_len (pa_cons (pv 6) pa_nil)) pe_int (nomark _)))))
            (pss_one (ps_asg (pe_ix ix_list (pe_lst (pa_cons (pe_op op_mod (pe_ix ix_list (pv 4) pe_int (fun _ _ => rfl)) pe_int) (pa_cons pe_int (pa_cons pe_int (pa_cons pe_int (pa_cons pe_int (pa_cons pe_int (pa_cons pe_int (pa_cons pe_int pa_nil)))))))))
                (pe_op op_mod (pe_ix ix_list (pv 4) pe_int (fun _ _ => rfl)) pe_int) (fun _ _ => rfl))
              (pg_sub (pv 6) (pe_op op_mod (pe_ix ix_list (pv 4) pe_int (fun _ _ => rfl)) (pe_callB call_len_seq (by rfl) N.len PySem.boot_len (pa_cons (pv 6) pa_nil))) set_list))) pss_nil)
        (pss_cons (ps_set (i := 7) scLaw.nd rfl (.inl rfl) pe_non)
        (pss_cons (ps_for PassesOwn.never rfl (pi_range1 (by rfl) N.range (pa_cons (pe_callB call_len_seq (by rfl) N.len PySem.boot_len (pa_cons (pv 6) pa_nil)) pa_nil)) (pg_name (i := 8) scLaw.nd rfl (.inl rfl))
            (pss_one (ps_if (PW.pt (pw_and (pt_cmpR op_isN (pv 7) pe_non (nomark _)) (pw_and1 (pt_cmpR op_notIn_seq (pe_ix ix_list (pv 6) (pv 8) (fun _ _ => rfl)) (pe_listVals rfl (pv 1) (by rfl) N.list (by decide +kernel)) (by rfl)))))
              (pss_one (ps_set (i := 7) scLaw.nd rfl (.inl rfl) (pe_tup (pa_cons pe_str (pa_cons (pv 8) pa_nil))))) pss_nil)))
        (Evl.pss_cut (ps_if (pt_cmpR op_isN (pv 7) pe_non (nomark _)) (pss_one (ps_set (i := 7) scLaw.nd rfl (.inl rfl) (pe_join pe_str (pe_lc (own := [("octet", 12)]) (g := gName 12) (tt := tYes) rfl scLaw.nd (pi_list (pv 6))
              (blkOk_by (N := ["script", "codes", "signs", "cell", "numbers", "text", "octets", "due", "k", "handed", "number", "sign", "octet"]) (sc := defScope sLaw) (by decide +kernel))
              (fun _ _ _ _ _ => pg_name (i := 12) scLaw.nd rfl (Or.inl rfl)) (fun _ _ _ _ _ => pts_nil)
              (fun _ _ _ _ _ => pe_ix (ix_listK K rfl) (pv 2) (pe_bmK K rfl PySem.F.plainAttrs_list PySem.F.slot_list_index PySem.F.type_list_index (mt_indexK K rfl) (pe_listVals rfl (pv 1) (by rfl) N.list (by decide +kernel)) (pa_cons (pv 12) pa_nil)) (fun _ _ => rfl)))))) pss_nil)
        (pss_cons (ps_set (i := 9) scLaw.nd rfl (.inl rfl) (pe_callTy call_list_of (by rfl) N.list (by decide +kernel) (pa_cons (pv 6) pa_nil)))
        (pss_one (ps_if (PW.pt (pw_or (pt_cmpR (OpR.or op_ne (op_neD hr.units)) (pe_call GO hr (by rfl) T.gO T.kO T.bO .nil pass0 (pa_cons (pv 9) pa_nil)) (pv 7) (nomark _))
            (pw_or1 (pt_cmpR (op_neD hr.units) (pv 9) (pv 6) (nomark _))))) (pss_one (ps_ret pe_bl)) pss_nil)))))))))))))
      (pss_one (ps_ret pe_bl)))), ?_⟩
    have cp : CPow 1 20 := ⟨by decide, by decide, by decide⟩
    refine ⟨rfl, fun H1 cA s1 nc hc => ?_⟩
    refine ⟨_, rfl, cA, _, rfl, hc, fun sA nsA => ?_⟩
    rw [keys_CS]
    have s2 : Same H (upd H1 sA (.lst (CS.map fun c => V.str (sg c)))) := s1.trans (same_new nsA)
    refine ⟨.ref a, rfl, 12, rfl, a, ns.map V.int, rfl, s2.seq hS, fun p1 np1 => ?_⟩
    rw [cut12]
    refine ⟨(by show 1 ≤ sizeLine; decide), fun p2 np2 => ?_⟩
    have h12 : (ns.take 12).length ≤ 12 := by rw [List.length_take]; omega
    refine ⟨p1, p2, _, _, rfl, rfl, same_new np2 _ _ upd_same, upd_same, ?_, fun p3 np3 => ?_⟩
    · rw [List.length_map]
      exact Nat.le_of_lt (small1000 (show (ns.take 12).length + 1 ≤ 1000 by omega))
    refine ⟨p3, rfl, ⟨_, .inl (.inl upd_same)⟩, ?_⟩
    refine for_list (xs := ((ns.take 12).map V.int) ++ [V.int 0]) (fun i σ H3 => ∃ y3 y4 y5 y6 y7 y8 y9 y10 y11 y12, σ = [some (.ref a), some (.ref cA), some (.ref sA), y3, y4, y5, y6, y7, y8, y9, y10, y11, y12] ∧ H3 cA = some (.dK (CS.map pr)) ∧
      H3 sA = some (.lst (CS.map fun c => V.str (sg c))) ∧ H3 p3 = some (.lst (((ns.take 12).map V.int) ++ [V.int 0]))) ?_ ?_ ?_ ?_
    · refine ⟨_, _, _, _, _, _, _, _, _, _, rfl, ?_, ?_, upd_same⟩
      · exact same_new np3 _ _ (same_new np2 _ _ (same_new np1 _ _ (same_new nsA _ _ hc)))
      · exact same_new np3 _ _ (same_new np2 _ _ (same_new np1 _ _ upd_same))
    · rintro i σ H3 hi ⟨y3, y4, y5, y6, y7, y8, y9, y10, y11, y12, rfl, fc, fs, fp⟩
      exact .inl (.inl fp)
    · rintro i x σ H3 hx ⟨y3, y4, y5, y6, y7, y8, y9, y10, y11, y12, rfl, fc, fs, fp⟩
      obtain ⟨cell, rfl⟩ : ∃ cell : Int, x = .int cell := by
        rcases List.mem_append.mp (List.mem_of_getElem? hx) with h | h
        · obtain ⟨n, _, rfl⟩ := List.mem_map.mp h
          exact ⟨n, rfl⟩
        · exact ⟨0, by simpa using h⟩
      -- numbers
      refine ⟨_, rfl, 1, 20, rfl, rfl, cp, cell, 25, 1048576, rfl, by decide, by decide, by decide, by decide, fun H4 nA ms s4 nn hm hn => ?_⟩
      have hm : ms.length = 25 := hm
      -- text
      obtain ⟨n24, a24⟩ := get_ms hm 24 (by decide)
      obtain ⟨tk, etk, ltk⟩ := cut_map ms (some (n24 % 13))
      refine ⟨⟨_, rfl⟩, _, rfl, _, rfl, nA, _, _, _, rfl, rfl, .inl (.inl hn), a24, n24, 13, rfl, rfl, (by show (0 : Int) < 13; decide), _, rfl, nA, ms.map V.int, rfl, .inl (.inl hn), fun p5 np5 => ?_⟩
      rw [etk]
      refine ⟨p5, rfl, ⟨_, .inl (.inl upd_same)⟩, fun D5 nD5 => ?_⟩
      have s45 : Same H4 (upd H4 p5 (.lst (tk.map V.int))) := same_new np5
      refine lc_list (xs := tk.map V.int) (fun i H5 => Same (upd H4 p5 (.lst (tk.map V.int))) H5 ∧ ∃ cs : List Nat, cs.length = i ∧ (∀ c ∈ cs, okc c = true) ∧ H5 D5 = some (.lst ((cs.map sg).map V.str))) ?_ (fun i H5 _ p => .inl (.inl (p.1 _ _ upd_same))) ?_ ?_
      · exact ⟨same_new nD5, [], rfl, fun c h => (List.not_mem_nil h).elim, upd_same⟩
      · rintro i x H5 hx ⟨s5, cs, hl, hcs, hD⟩
        obtain ⟨n, rfl⟩ : ∃ n : Int, x = .int n := by
          obtain ⟨n, _, rfl⟩ := List.mem_map.mp (List.mem_of_getElem? hx)
          exact ⟨n, rfl⟩
        have hi : i < tk.length := by
          have := (List.getElem?_eq_some_iff.mp hx).1
          rwa [List.length_map] at this
        have fs5 := s5 _ _ (s45 _ _ (s4 _ _ fs))
        refine ⟨rfl, ?_⟩
        dsimp only [tYes]
        rw [if_pos rfl]
        obtain ⟨c, hc, ac⟩ := at_CS (Int.emod_nonneg n (by decide : (95 : Int) ≠ 0)) (Int.emod_lt_of_pos n (by decide : (0 : Int) < 95))
        refine ⟨_, rfl, _, rfl, _, rfl, sA, _, rfl, .inl (.inl (.inl fs5)), n, _, rfl, rfl, (by show (0 : Int) < ((CS.map fun c => V.str (sg c)).length : Int); rw [len_S]; decide), ?_⟩
        refine ⟨sA, _, _, _, rfl, rfl, .inl (.inl fs5), (by rw [len_S]; exact ac), _, hD, ?_, same_put s5 nD5, cs ++ [c], ?_, ?_, ?_⟩
        · rw [List.length_map, List.length_map]
          exact small1000 (by omega)
        · rw [List.length_append, hl]
          rfl
        · intro d hd
          rcases List.mem_append.mp hd with h | h
          · exact hcs d h
          · rw [List.mem_singleton.mp h]
            exact CS_ok c hc
        · rw [upd_same, List.map_append, List.map_append]
          rfl
      · rintro H5 ⟨s5, cs, hl, hcs, hD⟩
        rw [List.length_map] at hl
        have s35 : Same H3 H5 := s4.trans (s45.trans s5)
        have e0 : ("" : Str).length = 0 := by decide +kernel
        refine ⟨("" : Str), D5, cs.map sg, rfl, rfl, .inl (.inl (.inl hD)), (by rw [sg_sum, e0]; omega), ?_⟩
        rw [join_txt]
        have t95 : Txt95 (txt cs) := fun c h => hcs c (by rwa [txt_cps] at h)
        -- octets = encode_text(text)
        refine ⟨_, rfl, cs, rfl, by omega, fun H6 oA s6 no ho => ?_⟩
        have s36 := s35.trans s6
        -- the first test
        refine ⟨_, rfl, _, rfl, txt cs, rfl, fun D7 nD7 => ?_⟩
        have hsz : (txt cs).cps.size = cs.length := by simp [txt]
        refine lc_it walk_str (fun i H7 => Same H6 H7 ∧ H7 D7 = some (.lst ((cs.take i).map ic))) ⟨same_new nD7, upd_same⟩ (fun _ _ _ _ => True.intro) ?_ ?_
        · rintro i x H7 H' hi ⟨s7, hD7⟩ ⟨rfl, c, hcx, rfl⟩
          have hi' : i < cs.length := by omega
          have ec : cs[i]? = some c := by
            have : (txt cs).cps[i]? = cs[i]? := by simp [txt]
            rw [← this]
            exact hcx
          have oc := hcs c (List.mem_of_getElem? ec)
          refine ⟨rfl, ?_⟩
          dsimp only [tYes]
          rw [if_pos rfl]
          refine ⟨_, rfl, _, rfl, cA, ic c, rfl, dget_CS (s7 _ _ (s36 _ _ fc)) (CS_in c (okc_lt oc) oc), _, hD7, ?_, same_put s7 nD7, ?_⟩
          · rw [List.length_map, List.length_take]
            exact small1000 (by omega)
          · rw [upd_same, List.take_add_one, ec, List.map_append]
            rfl
        · rintro H7 ⟨s7, hD7⟩
          rw [hsz, List.take_length] at hD7
          have ho7 := s7 _ _ ho
          rw [ic_map] at hD7 ho7
          have s37 := s36.trans s7
          have lcs : (cs.map fun (c : Nat) => (c : Int)).length ≤ 1000 := by rw [List.length_map]; omega
          refine ⟨oA, D7, _, rfl, ho7, .inl (.inl hD7), lcs, true, rfl, iteF ?_⟩
          refine ⟨_, rfl, oA, _, rfl, .inl (.inl ho7), lcs, fun _ H8 s8 => ?_, fun i hb => ?_⟩
          · rw [nats_ic]
            refine ⟨_, rfl, rfl, _, rfl, iteBF (by rw [decide_eq_true rfl]; rfl) ?_⟩
            refine ⟨_, rfl, txt cs, rfl, t95, by rw [txt_len]; omega, true, true, rfl, rfl, _, rfl, iteBF rfl ?_⟩
            have s38 := s37.trans s8
            have hn8 : H8 nA = some (.lst (ms.map V.int)) := s8 _ _ (s7 _ _ (s6 _ _ (s5 _ _ (s45 _ _ hn))))
            -- other octets
            obtain ⟨n23, a23⟩ := get_ms hm 23 (by decide)
            obtain ⟨tk2, etk2, ltk2⟩ := cut_map ms (some (n23 % 13))
            refine ⟨_, rfl, _, rfl, nA, _, _, _, rfl, rfl, .inl (.inl hn8), a23, n23, 13, rfl, rfl, (by show (0 : Int) < 13; decide), _, rfl, nA, ms.map V.int, rfl, .inl (.inl hn8), fun p9 np9 => ?_⟩
            rw [etk2]
            refine ⟨p9, rfl, ⟨_, .inl (.inl upd_same)⟩, fun D9 nD9 => ?_⟩
            have s89 : Same H8 (upd H8 p9 (.lst (tk2.map V.int))) := same_new np9
            have nD93 : H3 D9 = none := (s38.trans s89).free nD9
            refine lc_list (xs := tk2.map V.int) (fun i H9 => Same (upd H8 p9 (.lst (tk2.map V.int))) H9 ∧ ∃ cs : List Nat, cs.length = i ∧ (∀ c ∈ cs, okc c = true) ∧ H9 D9 = some (.lst (cs.map ic))) ?_ (fun i H9 _ p => .inl (.inl (p.1 _ _ upd_same))) ?_ ?_
            · exact ⟨same_new nD9, [], rfl, fun c h => (List.not_mem_nil h).elim, upd_same⟩
            · rintro i x H9 hx ⟨s9, cs2, hl2, hcs2, hD9⟩
              obtain ⟨n, rfl⟩ : ∃ n : Int, x = .int n := by
                obtain ⟨n, _, rfl⟩ := List.mem_map.mp (List.mem_of_getElem? hx)
                exact ⟨n, rfl⟩
              have hi : i < tk2.length := by
                have := (List.getElem?_eq_some_iff.mp hx).1
                rwa [List.length_map] at this
              have fs9 := s9 _ _ (s89 _ _ (s38 _ _ fs))
              have fc9 := s9 _ _ (s89 _ _ (s38 _ _ fc))
              refine ⟨rfl, ?_⟩
              dsimp only [tYes]
              rw [if_pos rfl]
              obtain ⟨c, hc, ac⟩ := at_CS (Int.emod_nonneg n (by decide : (95 : Int) ≠ 0)) (Int.emod_lt_of_pos n (by decide : (0 : Int) < 95))
              refine ⟨_, rfl, _, rfl, _, rfl, _, rfl, sA, _, rfl, .inl (.inl (.inl fs9)), n, _, rfl, rfl, (by show (0 : Int) < ((CS.map fun c => V.str (sg c)).length : Int); rw [len_S]; decide), ?_⟩
              refine ⟨sA, _, _, _, rfl, rfl, .inl (.inl fs9), (by rw [len_S]; exact ac), cA, ic c, rfl, dget_CS fc9 hc, _, hD9, ?_, same_put s9 nD9, cs2 ++ [c], ?_, ?_, ?_⟩
              · rw [List.length_map]
                exact small1000 (by omega)
              · rw [List.length_append, hl2]
                rfl
              · intro d hd
                rcases List.mem_append.mp hd with h | h
                · exact hcs2 d h
                · rw [List.mem_singleton.mp h]
                  exact CS_ok c hc
              · rw [upd_same, List.map_append]
                rfl
            · rintro H9 ⟨s9, cs2, hl2, hcs2, hD9⟩
              rw [List.length_map] at hl2
              rw [ic_map] at hD9
              have s39 := (s38.trans s89).trans s9
              have hn9 := s9 _ _ (s89 _ _ hn8)
              have lc2 : (cs2.map fun (c : Nat) => (c : Int)).length ≤ 30 := by rw [List.length_map]; omega
              generalize (cs2.map fun (c : Nat) => (c : Int)) = os0 at hD9 lc2
              -- one octet may be put in
              refine ⟨fun σ H => ∃ os : List Int, os.length ≤ 30 ∧ σ = [some (.ref a), some (.ref cA), some (.ref sA), some (.int cell), some (.ref nA), some (.str (txt cs)), some (.ref D9), y7, y8, y9, y10, y11, y12] ∧ Same H3 H ∧ H D9 = some (.lst (os.map V.int)), ?_, ?_⟩
              · obtain ⟨n22, a22⟩ := get_ms hm 22 (by decide)
                refine ⟨_, rfl, nA, _, _, _, rfl, rfl, .inl (.inl hn9), a22, n22, 2, rfl, rfl, (by show (0 : Int) < 2; decide), rfl, _, rfl, ite2 (fun _ => ?_) (fun _ => iteF ⟨os0, lc2, rfl, s39, hD9⟩)⟩
                refine ⟨_, rfl, D9, _, rfl, .inl (.inl (.inl hD9)), _, 0, rfl, rfl, _, rfl, ite2 (fun e => ?_) (fun _ => ⟨os0, lc2, rfl, s39, hD9⟩)⟩
                have hpos : 0 < os0.length := by
                  have := of_decide_eq_true e
                  rw [List.length_map] at this
                  omega
                obtain ⟨n20, a20⟩ := get_ms hm 20 (by decide)
                obtain ⟨n19, a19⟩ := get_ms hm 19 (by decide)
                obtain ⟨n21, a21⟩ := get_ms hm 21 (by decide)
                refine ⟨_, rfl, nA, _, _, _, rfl, rfl, .inl (.inl hn9), a20, n20, 256, rfl, rfl, (by show (0 : Int) < 256; decide), (by show 8 ≤ sizeLine; decide), fun qA nq => ?_⟩
                have hn10 := same_new (o := .lst [.int (n20 % 256), .int 37, .int 31, .int 127, .int 128, .int 8, .int 11, .int 13]) nq _ _ hn9
                have hD10 := same_new (o := .lst [.int (n20 % 256), .int 37, .int 31, .int 127, .int 128, .int 8, .int 11, .int 13]) nq _ _ hD9
                obtain ⟨w8, a8⟩ := int_at (ms := [n20 % 256, 37, 31, 127, 128, 8, 11, 13]) (n := n19 % 8) rfl (Int.emod_nonneg _ (by decide)) (Int.emod_lt_of_pos _ (by decide))
                have m0 : 0 ≤ n21 % ((os0.map V.int).length : Int) := Int.emod_nonneg _ (by rw [List.length_map]; omega)
                have m1 : n21 % ((os0.map V.int).length : Int) < ((os0.map V.int).length : Int) := Int.emod_lt_of_pos _ (by rw [List.length_map]; omega)
                refine ⟨_, rfl, nA, _, _, _, rfl, rfl, .inl (.inl hn10), a19, n19, 8, rfl, rfl, (by show (0 : Int) < 8; decide), qA, _, _, _, rfl, rfl, .inl (.inl upd_same), a8, ?_⟩
                refine ⟨_, rfl, _, rfl, nA, _, _, _, rfl, rfl, .inl (.inl hn10), a21, _, rfl, D9, _, rfl, .inl (.inl (.inl hD10)), n21, _, rfl, rfl, (by show (0 : Int) < ((os0.map V.int).length : Int); rw [List.length_map]; omega), ?_⟩
                refine ⟨D9, os0.map V.int, _, (n21 % ((os0.map V.int).length : Int)).toNat, rfl, rfl, hD10, ?_, os0.set (n21 % ((os0.map V.int).length : Int)).toNat w8, ?_, rfl, same_put (s39.trans (same_new nq)) nD93, ?_⟩
                · unfold ixN
                  rw [if_pos m0, if_pos m1]
                · rw [List.length_set]
                  exact lc2
                · rw [upd_same, List.map_set]
              · rintro σ H10 ⟨os, los, rfl, s10, hD10⟩
                have fc10 := s10 _ _ fc
                have fs10 := s10 _ _ fs
                have lD : (os.map V.int).length = os.length := List.length_map ..
                -- what is due
                refine ⟨_, rfl, D9, _, rfl, .inl (.inl (.inl hD10)), _, rfl, by omega, by omega, ?_⟩
                rw [lD]
                refine for_range (lo := 0) (n := ((os.length : Int)).toNat) (fun i σ H => ∃ du z8, σ = [some (.ref a), some (.ref cA), some (.ref sA), some (.int cell), some (.ref nA), some (.str (txt cs)), some (.ref D9), some du, z8, y9, y10, y11, y12] ∧ Same H10 H ∧
                  ((bad1 (os.take i) = none ∧ du = .non) ∨ ∃ (j : Nat) (p : Addr), bad1 (os.take i) = some j ∧ du = .ref p ∧ H p = some (.tup [.str "InvalidText", .int (j : Int)]))) ?_ ?_ ?_
                · exact ⟨.non, y8, rfl, Same.refl _, .inl ⟨rfl, rfl⟩⟩
                · rintro i σ H11 hi ⟨du, z8, rfl, s11, hdu⟩
                  have hi' : i < os.length := by omega
                  have gi := List.getElem?_eq_getElem hi'
                  have ai : atI (os.map V.int) (0 + (i : Int)) = some (.int os[i]) := at_of (Int.zero_add _) (by rw [List.getElem?_map, gi]; rfl)
                  have e0 : (0 : Int) + (i : Int) = (i : Int) := Int.zero_add _
                  refine ⟨_, rfl, rfl, _, rfl, ?_⟩
                  rcases hdu with ⟨hb, rfl⟩ | ⟨j, p, hb, rfl, hp⟩
                  · refine iteB (decide_eq_true rfl) ?_
                    have bt := bad1_take gi hb
                    refine ⟨_, rfl, _, rfl, D9, _, _, _, rfl, rfl, .inl (.inl (s11 _ _ hD10)), ai, _, rfl, cA, _, rfl, s11 _ _ fc10, fun v nv => ?_⟩
                    rw [vals_CS]
                    refine ⟨v, _, rfl, .inl (.inl (.inl upd_same)), rfl, flat_CS, _, rfl, ?_⟩
                    rw [inV_CS]
                    by_cases ho : okI os[i] = true
                    · rw [if_pos ho] at bt
                      exact iteBF (by rw [ho]; rfl) ⟨.non, _, rfl, s11.trans (same_new nv), .inl ⟨bt, rfl⟩⟩
                    · rw [if_neg ho] at bt
                      refine iteB (by rw [Bool.eq_false_iff.mpr ho]; rfl) ⟨_, rfl, (by show 2 ≤ sizeLine; decide), fun t nt => ?_⟩
                      exact ⟨.ref t, _, rfl, (s11.trans (same_new nv)).trans (same_new nt), .inr ⟨i, t, bt, rfl, by rw [upd_same, e0]⟩⟩
                  · exact iteBF (decide_eq_false fun z => nomatch z) (iteF ⟨.ref p, _, rfl, s11, .inr ⟨j, p, bad1_keep hb, rfl, hp⟩⟩)
                · rintro σ H11 ⟨du, z8, rfl, s11, hdu⟩
                  have el : ((os.length : Int)).toNat = os.length := by omega
                  rw [el, List.take_length] at hdu
                  have hD11 := s11 _ _ hD10
                  refine ⟨fun σ H => ∃ du, σ = [some (.ref a), some (.ref cA), some (.ref sA), some (.int cell), some (.ref nA), some (.str (txt cs)), some (.ref D9), some du, z8, y9, y10, y11, y12] ∧ Same H11 H ∧
                    ((bad1 os = none ∧ du = .str (txt (nats os))) ∨ ∃ (j : Nat) (p : Addr), bad1 os = some j ∧ du = .ref p ∧ H p = some (.tup [.str "InvalidText", .int (j : Int)])), ?_, ?_⟩
                  · refine ⟨_, rfl, rfl, _, rfl, ?_⟩
                    rcases hdu with ⟨hb, rfl⟩ | ⟨j, p, hb, rfl, hp⟩
                    · refine iteB (decide_eq_true rfl) ?_
                      have hok := bad1_none hb
                      refine ⟨⟨_, rfl⟩, _, rfl, D9, rfl, ⟨_, .inl (.inl hD11)⟩, fun D12 nD12 => ?_⟩
                      refine lc_list (xs := os.map V.int) (fun i H12 => Same H11 H12 ∧ H12 D12 = some (.lst ((((nats os).take i).map sg).map V.str))) ⟨same_new nD12, upd_same⟩ (fun i H12 _ p => .inl (.inl (p.1 _ _ hD11))) ?_ ?_
                      · rintro i x H12 hx ⟨s12, hD12⟩
                        have hi : i < os.length := by
                          have := (List.getElem?_eq_some_iff.mp hx).1
                          rwa [List.length_map] at this
                        rw [List.getElem?_map, List.getElem?_eq_getElem hi] at hx
                        have ex : x = .int os[i] := (Option.some.inj hx).symm
                        subst ex
                        obtain ⟨c, ec, oc⟩ := okI_c (hok _ (List.getElem_mem hi))
                        obtain ⟨j, gj, fj⟩ := first_ix (CS_in c (okc_lt oc) oc)
                        have fc12 := s12 _ _ (s11 _ _ fc10)
                        have fs12 := s12 _ _ (s11 _ _ fs10)
                        refine ⟨rfl, ?_⟩
                        dsimp only [tYes]
                        rw [if_pos rfl]
                        refine ⟨_, rfl, _, rfl, cA, _, rfl, fc12, fun v nv => ?_⟩
                        rw [vals_CS]
                        refine ⟨.inl ⟨rfl, _, .inl (.inl upd_same)⟩, _, rfl, v, _, _, j, ic c, rfl, rfl, .inl (.inl upd_same), rfl, flat_CS, ?_, ?_, ?_, ?_⟩
                        · rw [List.getElem?_map, gj]
                          rfl
                        · rw [ec]
                          show ((c : Int) == (c : Int)) = true
                          exact beq_self_eq_true _
                        · intro m z' hm' hz'
                          rw [List.getElem?_map] at hz'
                          cases hz2 : CS[m]? with
                          | none =>
                            rw [hz2] at hz'
                            cases hz'
                          | some y =>
                            rw [hz2] at hz'
                            have : ic y = z' := Option.some.inj hz'
                            subst this
                            rw [ec]
                            show ((y : Int) == (c : Int)) = false
                            have := fj m y hm' hz2
                            rw [beq_eq_false_iff_ne]
                            omega
                        · refine ⟨sA, _, _, _, rfl, rfl, .inl (.inl (same_new nv _ _ fs12)), atI_nat (v := .str (sg c)) (by rw [List.getElem?_map, gj]; rfl), _, same_new nv _ _ hD12, ?_, same_put (s12.trans (same_new nv)) nD12, ?_⟩
                          · rw [List.length_map, List.length_map, List.length_take]
                            exact small1000 (by omega)
                          · have ec2 : (nats os)[i]? = some c := by
                              unfold nats
                              rw [List.getElem?_map, List.getElem?_eq_getElem hi, ec]
                              rfl
                            rw [upd_same, List.take_add_one, ec2, List.map_append, List.map_append]
                            rfl
                      · rintro H12 ⟨s12, hD12⟩
                        have hnl : (nats os).length = os.length := List.length_map ..
                        rw [List.length_map, ← hnl, List.take_length] at hD12
                        refine ⟨("" : Str), D12, (nats os).map sg, rfl, rfl, .inl (.inl (.inl hD12)), (by rw [sg_sum, e0]; omega), ?_⟩
                        rw [join_txt]
                        exact ⟨_, rfl, s12, .inl ⟨hb, rfl⟩⟩
                    · exact iteBF (decide_eq_false fun z => nomatch z) ⟨_, rfl, Same.refl _, .inr ⟨j, p, hb, rfl, hp⟩⟩
                  · rintro σ H12 ⟨du, rfl, s12, hdu⟩
                    have hD12 := s12 _ _ hD11
                    -- handed = list(octets)
                    refine ⟨_, rfl, D9, _, rfl, .inl (.inl (.inl hD12)), fun lA nl => ?_⟩
                    refine ⟨_, rfl, lA, os, rfl, .inl (.inl upd_same), by omega, fun hb H13 s13 => ?_, fun j hb H13 p s13 np hp => ?_⟩
                    · rcases hdu with ⟨_, rfl⟩ | ⟨j, p, hb', _⟩
                      · refine ⟨_, rfl, .inl ⟨rfl, _, rfl, iteBF (by rw [decide_eq_true rfl]; rfl) ?_⟩⟩
                        refine ⟨_, rfl, _, rfl, .list (os.map PyData.int), .list (os.map PyData.int), .lst (.inl (.inl (s13 _ _ upd_same))) (dp_ints os), .lst (.inl (.inl (s13 _ _ (same_new nl _ _ hD12)))) (dp_ints os), shaped_ints os, shaped_ints os, _, rfl, iteBF (by rw [eqv_ints]; rfl) ?_⟩
                        exact ⟨_, _, _, _, _, _, _, _, _, _, rfl, s13 _ _ (same_new nl _ _ (s12 _ _ (s11 _ _ fc10))), s13 _ _ (same_new nl _ _ (s12 _ _ (s11 _ _ fs10))), s13 _ _ (same_new nl _ _ (s12 _ _ (s11 _ _ (s10 _ _ fp))))⟩
                      · rw [hb] at hb'
                        cases hb'
                    · rcases hdu with ⟨hb', _⟩ | ⟨j', p', hb', rfl, hp'⟩
                      · rw [hb] at hb'
                        cases hb'
                      · have ej : j = j' := Option.some.inj (hb.symm.trans hb')
                        subst ej
                        refine ⟨_, rfl, .inr ⟨.tuple [.str "InvalidText", .int (j : Int)], .tuple [.str "InvalidText", .int (j : Int)], .tup (SqT.of hp) (.cons (.str _) (.cons (.int _) .nil)), .tup (SqT.of (s13 _ _ (same_new nl _ _ hp'))) (.cons (.str _) (.cons (.int _) .nil)), shaped_it _, shaped_it _, _, rfl, iteBF (by rw [SeqAt.eqv_refl _ (lay_it _)]; rfl) ?_⟩⟩
                        · refine ⟨_, rfl, _, rfl, .list (os.map PyData.int), .list (os.map PyData.int), .lst (.inl (.inl (s13 _ _ upd_same))) (dp_ints os), .lst (.inl (.inl (s13 _ _ (same_new nl _ _ hD12)))) (dp_ints os), shaped_ints os, shaped_ints os, _, rfl, iteBF (by rw [eqv_ints]; rfl) ?_⟩
                          exact ⟨_, _, _, _, _, _, _, _, _, _, rfl, s13 _ _ (same_new nl _ _ (s12 _ _ (s11 _ _ fc10))), s13 _ _ (same_new nl _ _ (s12 _ _ (s11 _ _ fs10))), s13 _ _ (same_new nl _ _ (s12 _ _ (s11 _ _ (s10 _ _ fp))))⟩
          · rw [bad1_ic hcs] at hb
            cases hb
    · rintro σ H3 ⟨y3, y4, y5, y6, y7, y8, y9, y10, y11, y12, rfl, _⟩
      exact q H3
end
end K2

namespace K2
open PySem L2
theorem all_mk {l : PySem.W.OpenLaw} {w : World} {K : PySem.W.Frag} {h : Heap} {mg : Str → Option Value} {fa : Addr} (X : K.In h) (G : h.Ns mainGlobals mg) (hfa : mg "law" = some (.ref fa))
    {f1 : Addr} {od1 an1 : Option Addr} {sl1 : Array (Option Value)} {oc1 kV1 dc1 pm1 cd1 ct1 : Value}
    (a1 : PySem.W.nsIn K mainGlobals "is_text" = some (some (.ref f1))) (l1 : K.lookup f1 = some ⟨oc1, od1, .func (PySem.W.fnOf "is_text" "is_text" (defArgs sIsText) (defBody sIsText) (defScope sIsText) .none kV1 dc1 pm1 an1 cd1 ct1), sl1⟩) (c1 : PySem.W.codeIn K cd1 "is_text" = true) (k1 : PySem.W.keepIn K (.ref f1) = true)
    {f2 : Addr} {od2 an2 : Option Addr} {sl2 : Array (Option Value)} {oc2 kV2 dc2 pm2 cd2 ct2 : Value}
    (a2 : PySem.W.nsIn K mainGlobals "encode_text" = some (some (.ref f2))) (l2 : K.lookup f2 = some ⟨oc2, od2, .func (PySem.W.fnOf "encode_text" "encode_text" (defArgs sEnc) (defBody sEnc) (defScope sEnc) .none kV2 dc2 pm2 an2 cd2 ct2), sl2⟩) (c2 : PySem.W.codeIn K cd2 "encode_text" = true) (k2 : PySem.W.keepIn K (.ref f2) = true)
    {f3 : Addr} {od3 an3 : Option Addr} {sl3 : Array (Option Value)} {oc3 kV3 dc3 pm3 cd3 ct3 : Value}
    (a3 : PySem.W.nsIn K mainGlobals "decode_text" = some (some (.ref f3))) (l3 : K.lookup f3 = some ⟨oc3, od3, .func (PySem.W.fnOf "decode_text" "decode_text" (defArgs sDec) (defBody sDec) (defScope sDec) .none kV3 dc3 pm3 an3 cd3 ct3), sl3⟩) (c3 : PySem.W.codeIn K cd3 "decode_text" = true) (k3 : PySem.W.keepIn K (.ref f3) = true)
    {f4 : Addr} {od4 an4 : Option Addr} {sl4 : Array (Option Value)} {oc4 kV4 dc4 pm4 cd4 ct4 : Value}
    (a4 : PySem.W.nsIn K mainGlobals "is_code" = some (some (.ref f4))) (l4 : K.lookup f4 = some ⟨oc4, od4, .func (PySem.W.fnOf "is_code" "is_code" (defArgs sIsCode) (defBody sIsCode) (defScope sIsCode) .none kV4 dc4 pm4 an4 cd4 ct4), sl4⟩) (c4 : PySem.W.codeIn K cd4 "is_code" = true) (k4 : PySem.W.keepIn K (.ref f4) = true)
    {f5 : Addr} {od5 an5 : Option Addr} {sl5 : Array (Option Value)} {oc5 kV5 dc5 pm5 cd5 ct5 : Value}
    (a5 : PySem.W.nsIn K mainGlobals "character_of" = some (some (.ref f5))) (l5 : K.lookup f5 = some ⟨oc5, od5, .func (PySem.W.fnOf "character_of" "character_of" (defArgs sChar) (defBody sChar) (defScope sChar) .none kV5 dc5 pm5 an5 cd5 ct5), sl5⟩) (c5 : PySem.W.codeIn K cd5 "character_of" = true) (k5 : PySem.W.keepIn K (.ref f5) = true)
    {f6 : Addr} {od6 an6 : Option Addr} {sl6 : Array (Option Value)} {oc6 kV6 dc6 pm6 cd6 ct6 : Value}
    (a6 : PySem.W.nsIn K mainGlobals "_law_draw" = some (some (.ref f6))) (l6 : K.lookup f6 = some ⟨oc6, od6, .func (PySem.W.fnOf "_law_draw" "_law_draw" (defArgs sDraw) (defBody sDraw) (defScope sDraw) .none kV6 dc6 pm6 an6 cd6 ct6), sl6⟩) (c6 : PySem.W.codeIn K cd6 "_law_draw" = true) (k6 : PySem.W.keepIn K (.ref f6) = true)
    {f7 : Addr} {od7 an7 : Option Addr} {sl7 : Array (Option Value)} {oc7 kV7 dc7 pm7 cd7 ct7 : Value}
    (a7 : PySem.W.nsIn K mainGlobals "_law_is_integer" = some (some (.ref f7))) (l7 : K.lookup f7 = some ⟨oc7, od7, .func (PySem.W.fnOf "_law_is_integer" "_law_is_integer" (defArgs sIsInt) (defBody sIsInt) (defScope sIsInt) .none kV7 dc7 pm7 an7 cd7 ct7), sl7⟩) (c7 : PySem.W.codeIn K cd7 "_law_is_integer" = true) (k7 : PySem.W.keepIn K (.ref f7) = true)
    {f8 : Addr} {od8 an8 : Option Addr} {sl8 : Array (Option Value)} {oc8 kV8 dc8 pm8 cd8 ct8 : Value}
    (a8 : PySem.W.nsIn K mainGlobals "_law_same" = some (some (.ref f8))) (l8 : K.lookup f8 = some ⟨oc8, od8, .func (PySem.W.fnOf "_law_same" "_law_same" (defArgs sSame) (defBody sSame) (defScope sSame) .none kV8 dc8 pm8 an8 cd8 ct8), sl8⟩) (c8 : PySem.W.codeIn K cd8 "_law_same" = true) (k8 : PySem.W.keepIn K (.ref f8) = true)
    {f9 : Addr} {od9 an9 : Option Addr} {sl9 : Array (Option Value)} {oc9 kV9 dc9 pm9 cd9 ct9 : Value}
    (a9 : PySem.W.nsIn K mainGlobals "_law_alphabet" = some (some (.ref f9))) (l9 : K.lookup f9 = some ⟨oc9, od9, .func (PySem.W.fnOf "_law_alphabet" "_law_alphabet" (defArgs sAlph) (defBody sAlph) (defScope sAlph) .none kV9 dc9 pm9 an9 cd9 ct9), sl9⟩) (c9 : PySem.W.codeIn K cd9 "_law_alphabet" = true) (k9 : PySem.W.keepIn K (.ref f9) = true)
    {f10 : Addr} {od10 an10 : Option Addr} {sl10 : Array (Option Value)} {oc10 kV10 dc10 pm10 cd10 ct10 : Value}
    (a10 : PySem.W.nsIn K mainGlobals "_law_told" = some (some (.ref f10))) (l10 : K.lookup f10 = some ⟨oc10, od10, .func (PySem.W.fnOf "_law_told" "_law_told" (defArgs sTold) (defBody sTold) (defScope sTold) .none kV10 dc10 pm10 an10 cd10 ct10), sl10⟩) (c10 : PySem.W.codeIn K cd10 "_law_told" = true) (k10 : PySem.W.keepIn K (.ref f10) = true)
    {f11 : Addr} {od11 an11 : Option Addr} {sl11 : Array (Option Value)} {oc11 kV11 dc11 pm11 cd11 ct11 : Value}
    (a11 : PySem.W.nsIn K mainGlobals "law" = some (some (.ref f11))) (l11 : K.lookup f11 = some ⟨oc11, od11, .func (PySem.W.fnOf "law" "law" (defArgs sLaw) (defBody sLaw) (defScope sLaw) .none kV11 dc11 pm11 an11 cd11 ct11), sl11⟩) (c11 : PySem.W.codeIn K cd11 "law" = true) (k11 : PySem.W.keepIn K (.ref f11) = true)
    (z1 : PySem.W.nsIn K mainGlobals "range" = some none)
    (z2 : PySem.W.nsIn K mainGlobals "int" = some none)
    (z3 : PySem.W.nsIn K mainGlobals "len" = some none)
    (z4 : PySem.W.nsIn K mainGlobals "isinstance" = some none)
    (z5 : PySem.W.nsIn K mainGlobals "bool" = some none)
    (z6 : PySem.W.nsIn K mainGlobals "list" = some none)
    (z7 : PySem.W.nsIn K mainGlobals "ord" = some none)
    (z8 : PySem.W.nsIn K mainGlobals "enumerate" = some none)
    (z9 : PySem.W.nsIn K mainGlobals "ValueError" = some none)
    {t1 : Tok} (g1 : PySem.W.nsIn K mainGlobals "CHARACTERS" = some (some (.str CHS t1)))
    {t2 : Tok} (g2 : PySem.W.nsIn K mainGlobals "LINE_FEED" = some (some (.int 10 t2)))
    {t3 : Tok} (g3 : PySem.W.nsIn K mainGlobals "SPACE" = some (some (.int 32 t3)))
    {t4 : Tok} (g4 : PySem.W.nsIn K mainGlobals "PERCENT_SIGN" = some (some (.int 37 t4)))
    {t5 : Tok} (g5 : PySem.W.nsIn K mainGlobals "TILDE" = some (some (.int 126 t5)))
    {C CM CC fI : Addr} {nm q : Str} {Nn : Addr} {bs : List Value} {sn : List Str} {sub : List Value} {ab : Bool} {col : Option Bool} {dd : Option Addr} {m0 m1 m3 m5 : Option Value} {tn : Tok} {odI anI : Option Addr} {slI : Array (Option Value)} {ocI kVI dcI pmI cdI ctI : Value}
    (eC : PySem.W.nsIn K mainGlobals "InvalidText" = some (some (.ref C)))
    (eM : PySem.W.nsIn K mainGlobals "ManysidesError" = some (some (.ref CM)))
    (eX : PySem.W.nsIn K mainGlobals "InvalidCell" = some (some (.ref CC)))
    (xL : K.lookup C = some (excClassObj nm q C Nn bs [.ref CM, .type "ValueError", .type "Exception", .type "BaseException", .type "object"] true sn sub ab col dd m0 m1 (some (.str "InvalidText" tn)) m3 m5 "ValueError.__new__"))
    (sa : PySem.W.findIn K (.ref C) "__setattr__" = some (some (.builtin "object.__setattr__")))
    (ga : PySem.W.findIn K (.ref C) "__getattribute__" = some (some (.builtin "BaseException.__getattribute__")))
    (gg : PySem.W.findIn K (.ref C) "__getattr__" = some none)
    (hs : PySem.W.subIn K (.ref C) (.type "BaseException") = some true)
    (hd : PySem.W.hasDictIn K C = true)
    (ha : PySem.W.findIn K (.ref C) "__class__" = some (some (.builtin "object.__class__")))
    (hn : PySem.W.specialIn K (.builtin "object.__class__") "__get__" = some (some (.builtin "getset_descriptor.__get__")))
    (ht : PySem.W.takesIn K (.builtin "object.__class__") = some true)
    (hm : PySem.W.mroIn K C (.type "object") = some true)
    (tyC : PySem.W.typeIn K (.ref C) = some (.type "type"))
    (kC : PySem.W.keepIn K (.ref C) = true)
    (rd : PySem.W.readsIn K C (.type "type") = true)
    (fc : PySem.W.findCls K (.ref C) (.type "type") "__name__" = some (.get (.builtin "getset_descriptor.__get__") (.builtin "type.__name__") (.ref C) (.type "type")))
    (noP : PySem.W.findIn K (.ref C) "place" = some none)
    (noN : PySem.W.findIn K (.ref C) "name" = some none)
    (iC : PySem.W.findIn K (.ref C) "__init__" = some (some (.ref fI)))
    (tI : PySem.W.typeIn K (.ref fI) = some (.type "function"))
    (lI : K.lookup fI = some ⟨ocI, odI, .func (PySem.W.fnOf "__init__" "ManysidesError.__init__" (defArgs sInit) (defBody sInit) (defScope sInit) .none kVI dcI pmI anI cdI ctI), slI⟩)
    (cI : PySem.W.codeIn K cdI "ManysidesError.__init__" = true)
    (kI : PySem.W.keepIn K (.ref fI) = true)
    (sM : PySem.W.subIn K (.ref CM) (.type "BaseException") = some true)
    (dM : PySem.W.hasDictIn K CM = true)
    (tM : PySem.W.typeIn K (.ref CM) = some (.type "type"))
    (sCM : PySem.W.subIn K (.ref C) (.ref CM) = some true)
    (q1 : PySem.W.kitOne K (.ref C) (.ref C) = some true)
    (q2 : PySem.W.kitOne K (.ref C) (.ref CC) = some false)
    (q3 : PySem.W.kitOne K (.ref C) (.type "ValueError") = some true)
    : ∃ fd : FuncData, (∀ (s : Shared) (v : Value), BindsTo s fd ⟨[v], []⟩ [("script", v)]) ∧ ∀ base : Heap, K.In base → base.Ns mainGlobals mg → FnOk l.prog w K mg base CX0 5 fa fd ["script"] (spLaw K) := by
  have e := hfa.symm.trans (PySem.W.mg_of X G a11)
  cases e
  have F1 := fun_mk (st := sIsText) l1 c1 k1
  have F2 := fun_mk (st := sEnc) l2 c2 k2
  have F3 := fun_mk (st := sDec) l3 c3 k3
  have F4 := fun_mk (st := sIsCode) l4 c4 k4
  have F5 := fun_mk (st := sChar) l5 c5 k5
  have F6 := fun_mk (st := sDraw) l6 c6 k6
  have F7 := fun_mk (st := sIsInt) l7 c7 k7
  have F8 := fun_mk (st := sSame) l8 c8 k8
  have F9 := fun_mk (st := sAlph) l9 c9 k9
  have F10 := fun_mk (st := sTold) l10 c10 k10
  have F11 := fun_mk (st := sLaw) l11 c11 k11
  have b1 := F1.binds (ps := ["text"]) fun _ _ _ _ _ _ us hl => match us, hl with | [_], _ => rfl
  have b2 := F2.binds (ps := ["text"]) fun _ _ _ _ _ _ us hl => match us, hl with | [_], _ => rfl
  have b3 := F3.binds (ps := ["octets"]) fun _ _ _ _ _ _ us hl => match us, hl with | [_], _ => rfl
  have b4 := F4.binds (ps := ["octet"]) fun _ _ _ _ _ _ us hl => match us, hl with | [_], _ => rfl
  have b5 := F5.binds (ps := ["code"]) fun _ _ _ _ _ _ us hl => match us, hl with | [_], _ => rfl
  have b6 := F6.binds (ps := ["cell", "many", "bound"]) fun _ _ _ _ _ _ us hl => match us, hl with | [_, _, _], _ => rfl
  have b7 := F7.binds (ps := ["actual"]) fun _ _ _ _ _ _ us hl => match us, hl with | [_], _ => rfl
  have b8 := F8.binds (ps := ["actual", "expected"]) fun _ _ _ _ _ _ us hl => match us, hl with | [_, _], _ => rfl
  have b9 := F9.binds (ps := []) fun _ _ _ _ _ _ us hl => match us, hl with | [], _ => rfl
  have b10 := F10.binds (ps := ["octets"]) fun _ _ _ _ _ _ us hl => match us, hl with | [_], _ => rfl
  have N : Nm mg := ⟨PySem.W.mg_none_of X G z1, PySem.W.mg_none_of X G z2, PySem.W.mg_none_of X G z3, PySem.W.mg_none_of X G z4, PySem.W.mg_none_of X G z5, PySem.W.mg_none_of X G z6, PySem.W.mg_none_of X G z7, PySem.W.mg_none_of X G z8, PySem.W.mg_none_of X G z9, ⟨_, PySem.W.mg_of X G g1, ⟨_, rfl⟩⟩, ⟨_, PySem.W.mg_of X G g2, ⟨_, rfl⟩⟩, ⟨_, PySem.W.mg_of X G g3, ⟨_, rfl⟩⟩, ⟨_, PySem.W.mg_of X G g4, ⟨_, rfl⟩⟩, ⟨_, PySem.W.mg_of X G g5, ⟨_, rfl⟩⟩⟩
  have FI := fun_mk (st := sInit) lI cI kI
  have bI := FI.binds (ps := ["self", "place"]) fun _ _ _ _ _ _ us hl => match us, hl with | [_, _], _ => rfl
  have ER : ErrC K C fI "InvalidText" := ⟨⟨⟨_, _, _, _, _, _, _, _, _, _, _, _, _, _, _, xL, rfl⟩, sa, hs, tyC, kC⟩, ⟨ga, gg, hs, hd, ha, hn, ht, hm⟩, ⟨rd, fc, tyC, _, _, xL, rfl⟩, ⟨ga, gg, hs, hd⟩, noP, noN, iC, tI⟩
  have TT : ToldT K mg C CM CC := ⟨PySem.W.mg_of X G eC, PySem.W.mg_of X G eM, PySem.W.mg_of X G eX, PySem.W.exm_ref sM dM tM sCM, q1, q2, q3⟩
  exact ⟨PySem.W.fnOf "law" "law" (defArgs sLaw) (defBody sLaw) (defScope sLaw) .none kV11 dc11 pm11 an11 cd11 ct11, fun s v => .of_eq rfl, fun base _ _ => ok_law (C := C) F11 N ⟨PySem.W.mg_of X G a9, PySem.W.mg_of X G a6, PySem.W.mg_of X G a2, PySem.W.mg_of X G a8, PySem.W.mg_of X G a3, PySem.W.mg_of X G a1, PySem.W.mg_of X G a10, b9, b6, b2, b8, b3, b1, b10, k9, k6, k2, k8, k3, k1, k10⟩ (ok_alph F9 N) (ok_draw F6 N.range N.int) (ok_enc F2 N) (ok_same F8 N F7 b7 (PySem.W.mg_of X G a7)) (ok_dec F3 N F4 b4 (PySem.W.mg_of X G a4) F5 b5 (PySem.W.mg_of X G a5) FI bI ER TT.gC) (ok_isText F1 N) (ok_told F10 N k3 b3 (PySem.W.mg_of X G a3) (ok_dec F3 N F4 b4 (PySem.W.mg_of X G a4) F5 b5 (PySem.W.mg_of X G a5) FI bI ER TT.gC) ER TT)⟩
end K2
open PySem PySem.W PyProof.Rows
set_option maxRecDepth 100000 in
set_option maxHeartbeats 0 in
theorem PySem.Challenge.cw_manysides_k01_texts_holds : PySem.Challenge.rw_manysides_k01_texts.Holds := by
  w_on; o_law; k_head; (case hw => w_witness2)
  k_fill
  refine L2.walk_of (l := PySem.Challenge.rw_manysides_k01_texts) (n := 63) (k := 5) (x := "script") (CX := fun _ => L2.CX0) (sp := fun w => K2.spLaw _) rfl (by decide) rfl ⟨rfl, by decide, by decide⟩ (fun w h Y => PySem.W.kIn_of Y) ?F (fun _ _ a ns hl _ hS => ⟨a, ns, rfl, hS, hl, fun _ => rfl⟩) (fun _ _ _ _ _ h => h)
  case F =>
    intro w mg fa h KX G hmg
    refine' K2.all_mk KX G hmg ?a1 ?l1 ?c1 ?k1 ?a2 ?l2 ?c2 ?k2 ?a3 ?l3 ?c3 ?k3 ?a4 ?l4 ?c4 ?k4 ?a5 ?l5 ?c5 ?k5 ?a6 ?l6 ?c6 ?k6 ?a7 ?l7 ?c7 ?k7 ?a8 ?l8 ?c8 ?k8 ?a9 ?l9 ?c9 ?k9 ?a10 ?l10 ?c10 ?k10 ?a11 ?l11 ?c11 ?k11 ?z1 ?z2 ?z3 ?z4 ?z5 ?z6 ?z7 ?z8 ?z9 ?g1 ?g2 ?g3 ?g4 ?g5 ?eC ?eM ?eX ?xL ?sa ?ga ?gg ?hs ?hd ?ha ?hn ?ht ?hm ?tyC ?kC ?rd ?fc ?noP ?noN ?iC ?tI ?lI ?cI ?kI ?sM ?dM ?tM ?sCM ?q1 ?q2 ?q3
    (case a1 => k_is)
    (case l1 => k_is)
    (case c1 => k_is)
    (case k1 => k_is)
    (case a2 => k_is)
    (case l2 => k_is)
    (case c2 => k_is)
    (case k2 => k_is)
    (case a3 => k_is)
    (case l3 => k_is)
    (case c3 => k_is)
    (case k3 => k_is)
    (case a4 => k_is)
    (case l4 => k_is)
    (case c4 => k_is)
    (case k4 => k_is)
    (case a5 => k_is)
    (case l5 => k_is)
    (case c5 => k_is)
    (case k5 => k_is)
    (case a6 => k_is)
    (case l6 => k_is)
    (case c6 => k_is)
    (case k6 => k_is)
    (case a7 => k_is)
    (case l7 => k_is)
    (case c7 => k_is)
    (case k7 => k_is)
    (case a8 => k_is)
    (case l8 => k_is)
    (case c8 => k_is)
    (case k8 => k_is)
    (case a9 => k_is)
    (case l9 => k_is)
    (case c9 => k_is)
    (case k9 => k_is)
    (case a10 => k_is)
    (case l10 => k_is)
    (case c10 => k_is)
    (case k10 => k_is)
    (case a11 => k_is)
    (case l11 => k_is)
    (case c11 => k_is)
    (case k11 => k_is)
    (case z1 => k_is)
    (case z2 => k_is)
    (case z3 => k_is)
    (case z4 => k_is)
    (case z5 => k_is)
    (case z6 => k_is)
    (case z7 => k_is)
    (case z8 => k_is)
    (case z9 => k_is)
    (case g1 => k_is)
    (case g2 => k_is)
    (case g3 => k_is)
    (case g4 => k_is)
    (case g5 => k_is)
    (case eC => first | k_is | kit_is | rfl)
    (case eM => first | k_is | kit_is | rfl)
    (case eX => first | k_is | kit_is | rfl)
    (case xL => first | k_is | kit_is | rfl)
    (case sa => first | k_is | kit_is | rfl)
    (case ga => first | k_is | kit_is | rfl)
    (case gg => first | k_is | kit_is | rfl)
    (case hs => first | k_is | kit_is | rfl)
    (case hd => first | k_is | kit_is | rfl)
    (case ha => first | k_is | kit_is | rfl)
    (case hn => first | k_is | kit_is | rfl)
    (case ht => first | k_is | kit_is | rfl)
    (case hm => first | k_is | kit_is | rfl)
    (case tyC => first | k_is | kit_is | rfl)
    (case kC => first | k_is | kit_is | rfl)
    (case rd => first | k_is | kit_is | rfl)
    (case fc => first | k_is | kit_is | rfl)
    (case noP => first | k_is | kit_is | rfl)
    (case noN => first | k_is | kit_is | rfl)
    (case iC => first | k_is | kit_is | rfl)
    (case tI => first | k_is | kit_is | rfl)
    (case lI => first | k_is | kit_is | rfl)
    (case cI => first | k_is | kit_is | rfl)
    (case kI => first | k_is | kit_is | rfl)
    (case sM => first | k_is | kit_is | rfl)
    (case dM => first | k_is | kit_is | rfl)
    (case tM => first | k_is | kit_is | rfl)
    (case sCM => first | k_is | kit_is | rfl)
    (case q1 => first | k_is | kit_is | rfl)
    (case q2 => first | k_is | kit_is | rfl)
    (case q3 => first | k_is | kit_is | rfl)
